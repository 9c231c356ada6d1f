/- What is proved here: contracts of the reference: Small of what is finite, over this seat's translation. -/
import Derived.Test.YtkimdkgijfknlaaC24
import Derived.Test.YtkimdkgijfknlaaC11
namespace Go.Proofs.Ytkimdkgijfknlaa
open Go.ChangeShapes Go.WideShapes Go.ChangeAt Go.RowKit
open BN
attribute [local go_sem] frombits_r tobits_r unary_negf


/-- The quotient of a float and a power of two. -/
theorem q_facts {mag ex : Nat} {P : Int} (h0 : mag ≠ 0) (hm : mag < 2 ^ 53) (hex : ex < 2047) (hP1 : -200 ≤ P) (hP2 : P ≤ 1030) (K : Nat) (hK : K = 40) :
    ∃ (A0 B0 ya yb NN DD : Nat), ya = 2 ^ P.toNat ∧ yb = 2 ^ (-P).toNat ∧
      Int.tdiv (frN false mag ex) (Nat.gcd (frN false mag ex).natAbs (frD ex) : Nat) = (A0 : Int) ∧ frD ex / Nat.gcd (frN false mag ex).natAbs (frD ex) = B0 ∧
      ((A0 : Int).natAbs < 2 ^ (32 * K) ∧ ya < 2 ^ (32 * K) ∧ B0 < 2 ^ (32 * K) ∧ yb < 2 ^ (32 * K) ∧ 0 < B0 ∧ 0 < yb ∧ 0 < ya) ∧
      ((NN : Int) = Int.tdiv ((A0 : Int) * yb) (Nat.gcd ((A0 : Int) * yb).natAbs (B0 * ya) : Nat) ∧ DD = B0 * ya / Nat.gcd ((A0 : Int) * yb).natAbs (B0 * ya)) ∧
      (NN < 2 ^ (32 * (2 * K)) ∧ DD < 2 ^ (32 * (2 * K)) ∧ 0 < DD) ∧ roundQ NN DD = shV mag ((max ex 1 : Nat) - 1075 - P) := by
  obtain ⟨b1, b2, b3⟩ := fr_bd false mag ex K hm hex hK
  have hN : frN false mag ex ≠ 0 := by
    intro h
    have := frN_abs false mag ex
    rw [h] at this
    have h2 : mag * 2 ^ (max ex 1 - 1075) ≠ 0 := Nat.mul_ne_zero h0 (Nat.ne_of_gt (Nat.two_pow_pos _))
    simp at this
    omega
  have hNa := frN_abs false mag ex
  have hNp : frN false mag ex = ((mag * 2 ^ (max ex 1 - 1075) : Nat) : Int) := by
    unfold frN frS; rw [FT.ipow, if_neg (by simp)]; push_cast; rfl
  obtain ⟨f1, f2, f3, f4, f5, f6⟩ := low_fact hN b3 rfl
  have hA0 : 0 ≤ Int.tdiv (frN false mag ex) (Nat.gcd (frN false mag ex).natAbs (frD ex) : Nat) := by
    have h1 : ¬ frN false mag ex < 0 := by rw [hNp]; omega
    rw [decide_eq_false h1] at f3
    have := of_decide_eq_false f3
    omega
  obtain ⟨A0, hA⟩ := Int.eq_ofNat_of_zero_le hA0
  rw [hA] at f1 f2 f5
  rw [Int.natAbs_natCast] at f1 f5
  generalize hB : frD ex / Nat.gcd (frN false mag ex).natAbs (frD ex) = B0 at *
  rw [hNa] at f1
  have hya : 0 < 2 ^ P.toNat := Nat.two_pow_pos _
  have hyb : 0 < 2 ^ (-P).toNat := Nat.two_pow_pos _
  have hyal : 2 ^ P.toNat < 2 ^ (32 * K) := Nat.pow_lt_pow_right (by omega) (by omega)
  have hybl : 2 ^ (-P).toNat < 2 ^ (32 * K) := Nat.pow_lt_pow_right (by omega) (by omega)
  have hsq : 2 ^ (32 * (2 * K)) = 2 ^ (32 * K) * 2 ^ (32 * K) := by rw [show 32 * (2 * K) = 32 * K + 32 * K from by omega, Nat.pow_add]
  have hA0n : A0 ≠ 0 := by omega
  obtain ⟨ya, hyae⟩ : ∃ ya, ya = 2 ^ P.toNat := ⟨_, rfl⟩
  obtain ⟨yb, hybe⟩ : ∃ yb, yb = 2 ^ (-P).toNat := ⟨_, rfl⟩
  rw [← hyae] at hya hyal
  rw [← hybe] at hyb hybl
  have hN2 : (A0 : Int) * yb ≠ 0 := Int.mul_ne_zero (by omega) (by omega)
  have hN2a : ((A0 : Int) * yb).natAbs = A0 * yb := by rw [Int.natAbs_mul, Int.natAbs_natCast, Int.natAbs_natCast]
  have hD2 : 0 < B0 * ya := Nat.mul_pos f4 hya
  obtain ⟨g1, g2, g3, g4, g5, g6⟩ := low_fact hN2 hD2 rfl
  have hNN0 : 0 ≤ Int.tdiv ((A0 : Int) * yb) (Nat.gcd ((A0 : Int) * yb).natAbs (B0 * ya) : Nat) := by
    have h1 : ¬ (A0 : Int) * yb < 0 := by have := Int.mul_nonneg (show (0 : Int) ≤ A0 by omega) (show (0 : Int) ≤ yb by omega); omega
    rw [decide_eq_false h1] at g3
    have := of_decide_eq_false g3
    omega
  obtain ⟨NN, hNN⟩ := Int.eq_ofNat_of_zero_le hNN0
  rw [hNN] at g1 g2 g5
  rw [Int.natAbs_natCast] at g1 g5
  generalize hDD : B0 * ya / Nat.gcd ((A0 : Int) * yb).natAbs (B0 * ya) = DD at *
  rw [hN2a] at g1 g5
  have hA0l : A0 < 2 ^ (32 * K) := Nat.lt_of_le_of_lt f5 b1
  have hB0l : B0 < 2 ^ (32 * K) := Nat.lt_of_le_of_lt f6 b2
  refine ⟨A0, B0, ya, yb, NN, DD, hyae, hybe, hA, rfl, ⟨by rw [Int.natAbs_natCast]; exact hA0l, hyal, hB0l, hybl, f4, hyb, hya⟩, ⟨hNN.symm, hDD.symm⟩, ⟨?_, ?_, g4⟩, ?_⟩
  · rw [hsq]; exact Nat.lt_of_le_of_lt g5 (Nat.mul_lt_mul'' hA0l hybl)
  · rw [hsq]; exact Nat.lt_of_le_of_lt g6 (Nat.mul_lt_mul'' hB0l hyal)
  · exact units_eq f4 g4 hyae hybe f1 g1 (by omega)

set_option maxRecDepth 10000 in
set_option maxHeartbeats 4000000 in
theorem small_fin (b ex mag : Nat) (T bi e0 : Int) (E F : Nat) (w : World) (hE : 2 ≤ E) (hE2 : E ≤ 8) (hF : 1 ≤ F) (hF2 : F ≤ 23) (h0 : b < 2 ^ 64) (r : Nat) (hr : FT.rung b = r) (hr0 : r ≠ 0) (hfin : r < FT.infR) (z : Nat)
    (hmag : mag ≠ 0) (hm : mag < 2 ^ 53) (hex : ex < 2047) (he0 : e0 = (max ex 1 : Nat) - 1075) (hT : T = e0 + mag.log2) (hbi : bi = 2 ^ (E - 1) - 1) (hT1 : -1100 ≤ T) (hT2 : T ≤ 1023)
    (K3 : ∀ w, Calls Try.prog 27 #[.float .f64 r] w fun o w' => o = .returned (.tuple #[.float .f64 z, .int .i64 (T + 1)]) ∧ G w w')
    (KR : ∀ w, Calls Try.prog 29 #[.float .f64 r] w (RetR w (Int.tdiv (frN false mag ex) (Nat.gcd (frN false mag ex).natAbs (frD ex) : Nat)) (frD ex / Nat.gcd (frN false mag ex).natAbs (frD ex))))
    (KP : ∀ (P : Int), -200 ≤ P → P ≤ 1030 → ∀ w, Calls Try.prog 30 #[.int .i64 P] w (RetR w (2 ^ P.toNat : Nat) (2 ^ (-P).toNat))) :
    Calls Try.prog 9 #[.float .f64 b, .agg #[.int .i64 E, .int .i64 F]] w fun e w' => e = .returned (.int .u64 ((nearV E F mag e0 + (if FT.neg b then 2 ^ (E + F) else 0) : Nat) : Int)) ∧ G w w' := by
  have K1 : Hid _ := fun w => signbit_c b w h0
  have HK3 : Hid _ := K3
  have HKR : Hid _ := KR
  have HKP : Hid _ := KP
  have HMG : Hid (mag ≠ 0 ∧ mag < 2 ^ 53 ∧ ex < 2047 ∧ e0 = (max ex 1 : Nat) - 1075 ∧ T = e0 + mag.log2) := ⟨hmag, hm, hex, he0, hT⟩
  have HSTP : Hid _ := steps_near E F mag e0 hE (by omega) hmag
  obtain ⟨KB, hKB⟩ : ∃ KB : Nat, KB = 40 := ⟨_, rfl⟩
  have hMb : (1 : Int) ≤ 2 ^ (E - 1) ∧ (2 : Int) ^ (E - 1) ≤ 128 := pow_bd (show E - 1 ≤ 7 by omega)
  have hM2 : (2 : Int) ≤ 2 ^ (E - 1) := by
    have : 2 ^ 1 ≤ 2 ^ (E - 1) := pow_le (by omega)
    rw [FT.ipow]; omega
  have HBW : Hid (wrap64 (wrap64 (2 ^ (E - 1)) - 1) = bi) := by
    show wrap64 (wrap64 (2 ^ (E - 1)) - 1) = bi
    generalize (2 : Int) ^ (E - 1) = M at *
    have e : wrap64 M = M := IntWalk.wrap64_in _ (by omega)
    rw [e, hbi]
    exact IntWalk.wrap64_in _ (by omega)
  have hb1 : 1 ≤ bi := by omega
  have hb2 : bi ≤ 127 := by omega
  have HBI : Hid (bi = 2 ^ (E - 1) - 1) := hbi
  clear hMb hM2 hbi hmag hm hex he0 hT KR KP K3
  have K3 := HK3
  clear HK3
  have e1 := FT.eq_zero r
  have hrr : FT.rung r = r := FT.rung_small (by unfold FT.infR at hfin; omega)
  rw [hrr, decide_eq_false hr0] at e1
  have K2 : Hid _ := fun w => isinf_c r w (by unfold FT.infR at hfin; omega)
  rw [hrr, decide_eq_false (by omega)] at K2
  have hneg := negFloat_eq b h0
  have hiw : Hid _ := inf_w E F hE2 hF2
  have hsw : Hid _ := sign_w E F hE2 hF2
  rcases FT.neg_cases b h0 with ⟨hs, hb⟩ | ⟨hs, hb⟩
  · rw [hs, if_pos rfl]
    rw [hs] at K1
    have hng : negV b = r := by unfold negV; rw [if_pos hs]; omega
    rw [hng] at hneg
    have HOR : Hid (∀ n : Nat, n ≤ (2 ^ E - 1) * 2 ^ F → bits BinOp.or IntKind.u64 (2 ^ (E + F)) (n : Int) = ((n + 2 ^ (E + F) : Nat) : Int)) := by
      have hlt : (2 ^ E - 1) * 2 ^ F < 2 ^ (E + F) := by
        rw [Nat.pow_add]
        exact Nat.mul_lt_mul_of_pos_right (by have := Nat.two_pow_pos E; omega) (Nat.two_pow_pos _)
      show ∀ n : Nat, n ≤ (2 ^ E - 1) * 2 ^ F → bits BinOp.or IntKind.u64 (2 ^ (E + F)) (n : Int) = ((n + 2 ^ (E + F) : Nat) : Int)
      exact fun n hn => or_sgn (Nat.lt_of_le_of_lt hn hlt) (by omega)
    have HIB : Hid ((2 ^ E - 1) * 2 ^ F < 2 ^ 63) := by
      show (2 ^ E - 1) * 2 ^ F < 2 ^ 63
      have c1 : 2 ^ E ≤ 2 ^ 8 := pow_le hE2
      have c2 : 2 ^ F ≤ 2 ^ 23 := pow_le hF2
      calc (2 ^ E - 1) * 2 ^ F ≤ 2 ^ 8 * 2 ^ 23 := Nat.mul_le_mul (by omega) c2
        _ < 2 ^ 63 := by decide
    generalize (2 ^ E - 1) * 2 ^ F = I at *
    clear hs hb hng hr hfin hrr hr0
    go_enter Try.func9, Try.ntmps9
    go_wp2_with fail
    refine (K1.out _).mono ?_
    rintro e w1 ⟨rfl, hb1⟩
    have hc109 := hb1.cell (p := ⟨w.heap.size, 0, none⟩) (v := .int .i64 E) (by first | (simp; done) | (simp; omega) | omega) (by first | assumption | (simp [go_sem]; done) | (simp [*, go_sem]; done))
    have hc110 := hb1.cell (p := ⟨w.heap.size, 1, none⟩) (v := .int .i64 F) (by first | (simp; done) | (simp; omega) | omega) (by first | assumption | (simp [go_sem]; done) | (simp [*, go_sem]; done))
    have zhb1 := hb1.size
    try simp at zhb1
    go_wp2_with fail
    refine region_gw (by kernel_rfl) (by kernel_rfl) ?_
    intro W hW
    have hq105 := gw_cell (w := W) (a := ⟨w.heap.size, 0, none⟩) (x := .int .i64 E) (by rw [hW]; first | (simp; done) | (simp; omega) | omega) (by rw [hW]; first | assumption | (simp [go_sem]; done) | (simp [*, go_sem]; done))
    have hq106 := gw_cell (w := W) (a := ⟨w.heap.size, 1, none⟩) (x := .int .i64 F) (by rw [hW]; first | (simp; done) | (simp; omega) | omega) (by rw [hW]; first | assumption | (simp [go_sem]; done) | (simp [*, go_sem]; done))
    clear hW
    repeat (go_big_quiet_step (fail))
    refine wpQuiet_nil ?_
    clear hq105 hq106
    intro w2 hw2
    have hb2 := hw2
    have hd1 := hb2.cell (p := ⟨w.heap.size, 0, none⟩) (v := .int .i64 E) (by simp; omega) (by assumption)
    have hd2 := hb2.cell (p := ⟨w.heap.size, 1, none⟩) (v := .int .i64 F) (by simp; omega) (by assumption)
    have hG2 : G w w2 := (by repeat' (first | exact G.refl _ | assumption | refine G.alloc ?_ _ | refine G.drew ?_ | refine G.drewN ?_ _ | (refine G.trans ?_ (by assumption))))
    have hps : w.heap.size < w2.heap.size := by have := hw2.size; omega
    obtain ⟨pf, hpf⟩ : ∃ pf, pf = w.heap.size := ⟨_, rfl⟩
    rw [← hpf] at hd1 hd2 hps ⊢
    try rw [hsw.out]
    rw [hiw.out]
    clear hb1 hw2 hb2 zhb1 hpf hsw hiw K1
    go_wp2_with fail
    refine Calls.mono (P := Try.prog) (K2.out _) ?_
    rintro e w3 ⟨rfl, hg3⟩
    have hG3 := G.trans hG2 hg3
    have hd5 := hg3.cell hps hd1
    have hd6 := hg3.cell hps hd2
    have hps3 := G.lt hg3 hps
    clear hG2 hg3 hd1 hd2 hps K2
    go_wp2_with fail
    simp only [HBW.out]
    refine Calls.mono (P := Try.prog) (K3.out _) ?_
    rintro e w4 ⟨rfl, hg4⟩
    have hG4 := G.trans hG3 hg4
    have hd7 := hg4.cell hps3 hd5
    have hd8 := hg4.cell hps3 hd6
    have hps4 := G.lt hg4 hps3
    clear hG3 hg4 hd5 hd6 hps3 K3
    by_cases htb : T < 1 - bi
    · obtain ⟨PL, hPL⟩ : ∃ PL, PL = 1 - bi := ⟨_, rfl⟩
      have HPL : Hid (PL = max T (1 - bi)) := by show PL = max T (1 - bi); omega
      have ht1 : decide (T < 1 - bi) = true := decide_eq_true htb
      have hp1 : -130 ≤ PL := by omega
      have hp2 : PL ≤ 1030 := by omega
      have hp3 : 0 ≤ PL + bi - 1 := by omega
      go_wp2_with fail
      rw [← hPL]
      clear ht1 htb hPL
      obtain ⟨A0, B0, ya, yb, NN, DD, hya, hyb, hA0, hB0, hbd, hnd, hnb, hsv⟩ := q_facts (P := PL - F) HMG.out.1 HMG.out.2.1 HMG.out.2.2.1 (by omega) (by omega) KB hKB
      have HRT : Hid _ := HKR.out
      have HWR : Hid (IntKind.i64.wrap (PL - F) = PL - F) := by show IntKind.i64.wrap (PL - F) = PL - F; exact IntWalk.i64_in _ (by omega)
      have HPW : Hid _ := HKP.out (PL - F) (by omega) (by omega)
      rw [hA0, hB0] at HRT
      rw [← hya, ← hyb] at HPW
      have hsl : shV mag (e0 - (PL - F)) ≤ 2 ^ (F + 1) := shV_le2 mag F _ (by have h1 := HMG.out.2.2.2.2; have h2 := HPL.out; omega)
      rw [← HMG.out.2.2.2.1] at hsv
      obtain ⟨SV, hSV⟩ : ∃ SV, SV = shV mag (e0 - (PL - F)) := ⟨_, rfl⟩
      rw [← hSV] at hsv hsl
      have HSV : Hid (roundQ NN DD = SV) := hsv
      have HSVE : Hid (SV = shV mag (e0 - (PL - F))) := hSV
      have HSL : Hid (SV ≤ 2 ^ (F + 1)) := hsl
      have HBD : Hid _ := hbd
      have HND : Hid _ := hnd
      have HNB : Hid (NN < 2 ^ (32 * (2 * KB)) ∧ DD < 2 ^ (32 * (2 * KB)) ∧ 0 < DD) := hnb
      clear hya hyb hA0 hB0 hbd hnd hnb hsv hSV hsl HKR HKP
      apply share
      · intro L15
        refine region_J 8 (G w4) (by kernel_rfl) (by first | exact (G.refl _).drew | exact G.drew (by assumption)) ?_
        intro hSh
        refine wpAnyJ_take (i := 1) (v := ?_) rfl (by kernel_rfl) (by kernel_rfl) (by kernel_rfl) (by kernel_rfl) (by kernel_rfl) (by kernel_rfl) (by kernel_rfl) (fun _ _ _ h => h) (Or.inl ⟨by rfl, ?_⟩) (by assumption) ?_
        rotate_left
        · intro wq hwq
          have hq1 := G.cell (p := ⟨pf, 0, none⟩) (v := .int .i64 E) hwq (by first | assumption | (simp; done) | (simp; omega) | omega) (by assumption)
          have hq2 := G.cell (p := ⟨pf, 1, none⟩) (v := .int .i64 F) hwq (by first | assumption | (simp; done) | (simp; omega) | omega) (by assumption)
          first | (go_simp; done) | (go_simp; with_reducible rfl)
        try simp only [Act.put, List.setIfInBounds_toArray, List.set_cons_zero, List.set_cons_succ]
        refine wpAnyJ_take (i := 3) (v := ?_) rfl (by kernel_rfl) (by kernel_rfl) (by kernel_rfl) (by kernel_rfl) (by kernel_rfl) (by kernel_rfl) (by kernel_rfl) (fun _ _ _ h => h) (Or.inl ⟨by rfl, ?_⟩) (by assumption) ?_
        rotate_left
        · intro wq hwq
          have hq3 := G.cell (p := ⟨pf, 0, none⟩) (v := .int .i64 E) hwq (by first | assumption | (simp; done) | (simp; omega) | omega) (by assumption)
          have hq4 := G.cell (p := ⟨pf, 1, none⟩) (v := .int .i64 F) hwq (by first | assumption | (simp; done) | (simp; omega) | omega) (by assumption)
          first | (go_simp; done) | (go_simp; with_reducible rfl)
        try simp only [Act.put, List.setIfInBounds_toArray, List.set_cons_zero, List.set_cons_succ]
        refine wpAnyJ_take (i := 4) (v := ?_) rfl (by kernel_rfl) (by kernel_rfl) (by kernel_rfl) (by kernel_rfl) (by kernel_rfl) (by kernel_rfl) (by kernel_rfl) (fun _ _ _ h => h) (Or.inl ⟨by rfl, ?_⟩) (by assumption) ?_
        rotate_left
        · intro wq hwq
          have hq5 := G.cell (p := ⟨pf, 0, none⟩) (v := .int .i64 E) hwq (by first | assumption | (simp; done) | (simp; omega) | omega) (by assumption)
          have hq6 := G.cell (p := ⟨pf, 1, none⟩) (v := .int .i64 F) hwq (by first | assumption | (simp; done) | (simp; omega) | omega) (by assumption)
          first | (go_simp; done) | (go_simp; with_reducible rfl)
        try simp only [Act.put, List.setIfInBounds_toArray, List.set_cons_zero, List.set_cons_succ]
        refine wpAnyJ_take (i := 5) (v := ?_) rfl (by kernel_rfl) (by kernel_rfl) (by kernel_rfl) (by kernel_rfl) (by kernel_rfl) (by kernel_rfl) (by kernel_rfl) (fun _ _ _ h => h) (Or.inl ⟨by rfl, ?_⟩) (by assumption) ?_
        rotate_left
        · intro wq hwq
          have hq7 := G.cell (p := ⟨pf, 0, none⟩) (v := .int .i64 E) hwq (by first | assumption | (simp; done) | (simp; omega) | omega) (by assumption)
          have hq8 := G.cell (p := ⟨pf, 1, none⟩) (v := .int .i64 F) hwq (by first | assumption | (simp; done) | (simp; omega) | omega) (by assumption)
          first | (go_simp; done) | (go_simp; with_reducible rfl)
        try simp only [Act.put, List.setIfInBounds_toArray, List.set_cons_zero, List.set_cons_succ]
        refine wpAnyJ_take (i := 6) (v := ?_) rfl (by kernel_rfl) (by kernel_rfl) (by kernel_rfl) (by kernel_rfl) (by kernel_rfl) (by kernel_rfl) (by kernel_rfl) (fun _ _ _ h => h) (Or.inl ⟨by rfl, ?_⟩) (by assumption) ?_
        rotate_left
        · intro wq hwq
          have hq9 := G.cell (p := ⟨pf, 0, none⟩) (v := .int .i64 E) hwq (by first | assumption | (simp; done) | (simp; omega) | omega) (by assumption)
          have hq10 := G.cell (p := ⟨pf, 1, none⟩) (v := .int .i64 F) hwq (by first | assumption | (simp; done) | (simp; omega) | omega) (by assumption)
          first | (go_simp; done) | (go_simp; with_reducible rfl)
        try simp only [Act.put, List.setIfInBounds_toArray, List.set_cons_zero, List.set_cons_succ]
        show wpAnyJ _ _ _ _ _ _ _ _ _ w4.drew
        rw [HWR.out]
        have hS5 := hSh
        generalize w4.drew = w5 at *
        clear hSh
        refine wpAnyJ_two (i := 0) (j := 2) (by kernel_rfl) rfl rfl ?_ ?_
        · skip
          intro K hK
          go_simp
          refine hK.out _ _ (Or.inr (hS5.alloc _)) ?_
          clear hK K
          have hZ6 := RatZ.new w5 64
          have hS6 := hS5.alloc (.cells #[.bool false, .slice none 0 0, .bool false, .slice none 0 0] 64)
          have hzs6 : w5.heap.size < (w5.alloc (.cells #[.bool false, .slice none 0 0, .bool false, .slice none 0 0] 64)).heap.size := by simp
          obtain ⟨pq, hpq⟩ : ∃ pq, pq = w5.heap.size := ⟨_, rfl⟩
          rw [← hpq] at hZ6 hzs6 ⊢
          have hpq0 : w4.heap.size ≤ pq := by have := hS5.size; omega
          clear hpq
          generalize w5.alloc (.cells #[.bool false, .slice none 0 0, .bool false, .slice none 0 0] 64) = w6 at *
          refine wpAnyJ_next (i := 2) (by kernel_rfl) rfl ?_
          intro K hK
          go_simp
          go_wp2_with (go_at_call 29; refine Calls.mono (P := Try.prog) (HRT.out w6) ?_; intro e w7 hx; obtain ⟨p1, rfl, hg7, -, hrs7, hR7⟩ := hx)
          refine hK.out _ _ (Or.inr (G.trans hS6 hg7)) ?_
          clear hK K
          have hS7 := G.trans hS6 hg7
          have hZ7 := hZ6.G hzs6 hg7
          have hzs7 := G.lt hg7 hzs6
          clear hg7
          refine wpAnyJ_next (i := 7) (by kernel_rfl) rfl ?_
          intro K hK
          go_simp
          go_wp2_with (go_at_call 30; refine Calls.mono (P := Try.prog) (HPW.out w7) ?_; intro e w8 hx; obtain ⟨p2, rfl, hg8, -, hks8, hP8⟩ := hx)
          refine hK.out _ _ (Or.inr (G.trans hS7 hg8)) ?_
          clear hK K
          have hS8 := G.trans hS7 hg8
          have hZ8 := hZ7.G hzs7 hg8
          have hzs8 := G.lt hg8 hzs7
          have hR8 := hR7.G hrs7 hg8
          have hrs8 := G.lt hg8 hrs7
          clear hg8
          have HQ : Hid _ := quoR_c w8 pq p1 p2 0 0 A0 ya B0 yb KB (by omega) HBD.out.1 HBD.out.2.1 HBD.out.2.2.1 HBD.out.2.2.2.1 HBD.out.2.2.2.2.1 HBD.out.2.2.2.2.2.1 HBD.out.2.2.2.2.2.2 hzs8 hrs8 hks8 hZ8.rat hR8 hP8
          rw [← HND.out.1, ← HND.out.2] at HQ
          have hq0 := Nat.le_trans hG4.size hpq0
          have hG8 := G.trans hG4 hS8
          have hd9 := hS8.cell hps4 hd7
          have hd10 := hS8.cell hps4 hd8
          have hps8 := G.lt hS8 hps4
          clear hR8 hP8 hZ8 hrs8 hks8
          try clear hR7
          try clear hR6
          try clear hR5
          try clear hP7
          try clear hZ7
          try clear hZ6
          try clear hrs7
          try clear hrs6
          try clear hks7
          try clear hzs7
          try clear hzs6
          try clear hS7
          try clear hS6
          clear hS5
          refine wpAnyJ_next (i := 8) (by kernel_rfl) rfl ?_
          intro K hK
          go_simp
          go_wp2_with (go_at_call 28; refine Calls.mono (P := Try.prog) HQ.out ?_; intro e w9 hx; obtain ⟨rfl, hg9, hR9⟩ := hx)
          refine hK.out _ _ (Or.inl (by decide)) ?_
          clear hK K
          have hG9 := GX.fresh hG8 hg9 hq0
          have hne : pf ≠ pq := by omega
          have hb9 := hg9.block pf hps8 (fun e => hne (Option.some.inj e))
          have hd11 := (World.cell?_of_block hb9).trans hd9
          have hd12 := (World.cell?_of_block hb9).trans hd10
          have hps9 := Nat.lt_of_lt_of_le hps8 hg9.size
          have hqs9 := Nat.lt_of_lt_of_le hzs8 hg9.size
          refine wpAnyJ_next (i := 9) (by kernel_rfl) rfl ?_
          intro K hK
          go_simp
          refine hK.out _ _ (Or.inl (by decide)) ?_
          clear hK K
          refine wpAnyJ_done (by kernel_rfl) ?_ _
          clear hg9 hb9 hd9 hd10 hps8 hzs8 hS8 hG8 hq0 hpq0 hne HQ
          revert hd12
          revert hd11
          revert hps9
          revert hqs9
          revert hR9
          revert hG9
          revert p2
          revert p1
          revert pq
          revert w9
          exact L15.out
        · as_aux_lemma =>
            intro K hK
            go_simp
            go_wp2_with (go_at_call 29; refine Calls.mono (P := Try.prog) (HRT.out w5) ?_; intro e w6 hx; obtain ⟨p1, rfl, hg6, -, hrs6, hR6⟩ := hx)
            refine hK.out _ _ (Or.inr (G.trans hS5 hg6)) ?_
            clear hK K
            have hS6 := G.trans hS5 hg6
            clear hg6
            refine wpAnyJ_two (i := 0) (j := 7) (by kernel_rfl) rfl rfl ?_ ?_
            · as_aux_lemma =>
                intro K hK
                go_simp
                refine hK.out _ _ (Or.inr (hS6.alloc _)) ?_
                clear hK K
                have hZ7 := RatZ.new w6 64
                have hS7 := hS6.alloc (.cells #[.bool false, .slice none 0 0, .bool false, .slice none 0 0] 64)
                have hzs7 : w6.heap.size < (w6.alloc (.cells #[.bool false, .slice none 0 0, .bool false, .slice none 0 0] 64)).heap.size := by simp
                obtain ⟨pq, hpq⟩ : ∃ pq, pq = w6.heap.size := ⟨_, rfl⟩
                rw [← hpq] at hZ7 hzs7 ⊢
                have hpq0 : w4.heap.size ≤ pq := by have := hS6.size; omega
                have hR7 := hR6.G hrs6 ((G.refl w6).alloc (.cells #[.bool false, .slice none 0 0, .bool false, .slice none 0 0] 64))
                have hrs7 := G.lt ((G.refl w6).alloc (.cells #[.bool false, .slice none 0 0, .bool false, .slice none 0 0] 64)) hrs6
                clear hpq
                generalize w6.alloc (.cells #[.bool false, .slice none 0 0, .bool false, .slice none 0 0] 64) = w7 at *
                refine wpAnyJ_next (i := 7) (by kernel_rfl) rfl ?_
                intro K hK
                go_simp
                go_wp2_with (go_at_call 30; refine Calls.mono (P := Try.prog) (HPW.out w7) ?_; intro e w8 hx; obtain ⟨p2, rfl, hg8, -, hks8, hP8⟩ := hx)
                refine hK.out _ _ (Or.inr (G.trans hS7 hg8)) ?_
                clear hK K
                have hS8 := G.trans hS7 hg8
                have hZ8 := hZ7.G hzs7 hg8
                have hzs8 := G.lt hg8 hzs7
                have hR8 := hR7.G hrs7 hg8
                have hrs8 := G.lt hg8 hrs7
                clear hg8
                have HQ : Hid _ := quoR_c w8 pq p1 p2 0 0 A0 ya B0 yb KB (by omega) HBD.out.1 HBD.out.2.1 HBD.out.2.2.1 HBD.out.2.2.2.1 HBD.out.2.2.2.2.1 HBD.out.2.2.2.2.2.1 HBD.out.2.2.2.2.2.2 hzs8 hrs8 hks8 hZ8.rat hR8 hP8
                rw [← HND.out.1, ← HND.out.2] at HQ
                have hq0 := Nat.le_trans hG4.size hpq0
                have hG8 := G.trans hG4 hS8
                have hd9 := hS8.cell hps4 hd7
                have hd10 := hS8.cell hps4 hd8
                have hps8 := G.lt hS8 hps4
                clear hR8 hP8 hZ8 hrs8 hks8
                try clear hR7
                try clear hR6
                try clear hR5
                try clear hP7
                try clear hZ7
                try clear hZ6
                try clear hrs7
                try clear hrs6
                try clear hks7
                try clear hzs7
                try clear hzs6
                try clear hS7
                try clear hS6
                clear hS5
                refine wpAnyJ_next (i := 8) (by kernel_rfl) rfl ?_
                intro K hK
                go_simp
                go_wp2_with (go_at_call 28; refine Calls.mono (P := Try.prog) HQ.out ?_; intro e w9 hx; obtain ⟨rfl, hg9, hR9⟩ := hx)
                refine hK.out _ _ (Or.inl (by decide)) ?_
                clear hK K
                have hG9 := GX.fresh hG8 hg9 hq0
                have hne : pf ≠ pq := by omega
                have hb9 := hg9.block pf hps8 (fun e => hne (Option.some.inj e))
                have hd11 := (World.cell?_of_block hb9).trans hd9
                have hd12 := (World.cell?_of_block hb9).trans hd10
                have hps9 := Nat.lt_of_lt_of_le hps8 hg9.size
                have hqs9 := Nat.lt_of_lt_of_le hzs8 hg9.size
                refine wpAnyJ_next (i := 9) (by kernel_rfl) rfl ?_
                intro K hK
                go_simp
                refine hK.out _ _ (Or.inl (by decide)) ?_
                clear hK K
                refine wpAnyJ_done (by kernel_rfl) ?_ _
                clear hg9 hb9 hd9 hd10 hps8 hzs8 hS8 hG8 hq0 hpq0 hne HQ
                revert hd12
                revert hd11
                revert hps9
                revert hqs9
                revert hR9
                revert hG9
                revert p2
                revert p1
                revert pq
                revert w9
                exact L15.out
            · as_aux_lemma =>
                intro K hK
                go_simp
                go_wp2_with (go_at_call 30; refine Calls.mono (P := Try.prog) (HPW.out w6) ?_; intro e w7 hx; obtain ⟨p2, rfl, hg7, -, hks7, hP7⟩ := hx)
                refine hK.out _ _ (Or.inr (G.trans hS6 hg7)) ?_
                clear hK K
                have hS7 := G.trans hS6 hg7
                have hR7 := hR6.G hrs6 hg7
                have hrs7 := G.lt hg7 hrs6
                clear hg7
                refine wpAnyJ_next (i := 0) (by kernel_rfl) rfl ?_
                intro K hK
                go_simp
                refine hK.out _ _ (Or.inr (hS7.alloc _)) ?_
                clear hK K
                have hZ8 := RatZ.new w7 64
                have hS8 := hS7.alloc (.cells #[.bool false, .slice none 0 0, .bool false, .slice none 0 0] 64)
                have hzs8 : w7.heap.size < (w7.alloc (.cells #[.bool false, .slice none 0 0, .bool false, .slice none 0 0] 64)).heap.size := by simp
                obtain ⟨pq, hpq⟩ : ∃ pq, pq = w7.heap.size := ⟨_, rfl⟩
                rw [← hpq] at hZ8 hzs8 ⊢
                have hpq0 : w4.heap.size ≤ pq := by have := hS7.size; omega
                have hR8 := hR7.G hrs7 ((G.refl w7).alloc (.cells #[.bool false, .slice none 0 0, .bool false, .slice none 0 0] 64))
                have hrs8 := G.lt ((G.refl w7).alloc (.cells #[.bool false, .slice none 0 0, .bool false, .slice none 0 0] 64)) hrs7
                have hP8 := hP7.G hks7 ((G.refl w7).alloc (.cells #[.bool false, .slice none 0 0, .bool false, .slice none 0 0] 64))
                have hks8 := G.lt ((G.refl w7).alloc (.cells #[.bool false, .slice none 0 0, .bool false, .slice none 0 0] 64)) hks7
                clear hpq
                generalize w7.alloc (.cells #[.bool false, .slice none 0 0, .bool false, .slice none 0 0] 64) = w8 at *
                have HQ : Hid _ := quoR_c w8 pq p1 p2 0 0 A0 ya B0 yb KB (by omega) HBD.out.1 HBD.out.2.1 HBD.out.2.2.1 HBD.out.2.2.2.1 HBD.out.2.2.2.2.1 HBD.out.2.2.2.2.2.1 HBD.out.2.2.2.2.2.2 hzs8 hrs8 hks8 hZ8.rat hR8 hP8
                rw [← HND.out.1, ← HND.out.2] at HQ
                have hq0 := Nat.le_trans hG4.size hpq0
                have hG8 := G.trans hG4 hS8
                have hd9 := hS8.cell hps4 hd7
                have hd10 := hS8.cell hps4 hd8
                have hps8 := G.lt hS8 hps4
                clear hR8 hP8 hZ8 hrs8 hks8
                try clear hR7
                try clear hR6
                try clear hR5
                try clear hP7
                try clear hZ7
                try clear hZ6
                try clear hrs7
                try clear hrs6
                try clear hks7
                try clear hzs7
                try clear hzs6
                try clear hS7
                try clear hS6
                clear hS5
                refine wpAnyJ_next (i := 8) (by kernel_rfl) rfl ?_
                intro K hK
                go_simp
                go_wp2_with (go_at_call 28; refine Calls.mono (P := Try.prog) HQ.out ?_; intro e w9 hx; obtain ⟨rfl, hg9, hR9⟩ := hx)
                refine hK.out _ _ (Or.inl (by decide)) ?_
                clear hK K
                have hG9 := GX.fresh hG8 hg9 hq0
                have hne : pf ≠ pq := by omega
                have hb9 := hg9.block pf hps8 (fun e => hne (Option.some.inj e))
                have hd11 := (World.cell?_of_block hb9).trans hd9
                have hd12 := (World.cell?_of_block hb9).trans hd10
                have hps9 := Nat.lt_of_lt_of_le hps8 hg9.size
                have hqs9 := Nat.lt_of_lt_of_le hzs8 hg9.size
                refine wpAnyJ_next (i := 9) (by kernel_rfl) rfl ?_
                intro K hK
                go_simp
                refine hK.out _ _ (Or.inl (by decide)) ?_
                clear hK K
                refine wpAnyJ_done (by kernel_rfl) ?_ _
                clear hg9 hb9 hd9 hd10 hps8 hzs8 hS8 hG8 hq0 hpq0 hne HQ
                revert hd12
                revert hd11
                revert hps9
                revert hqs9
                revert hR9
                revert hG9
                revert p2
                revert p1
                revert pq
                revert w9
                exact L15.out
      · skip
        refine Later.mk ?_
        intro w9 pq p1 p2 hG9 hR9 hqs9 hps9 hd11 hd12
        have HNI : Hid _ := nearInt_c w9 pq NN DD (2 * KB) (by omega) HNB.out.1 HNB.out.2.1 HNB.out.2.2 hqs9 hR9
        rw [HSV.out] at HNI
        clear hR9 hqs9 HNB HSV HBD HND HRT HPW HWR hd7 hd8 hG4 hps4
        go_wp2_with fail
        refine Calls.mono (P := Try.prog) HNI.out ?_
        intro e w10 hni
        obtain ⟨pn, rfl, hg10, hpn1, hpn2, hpni⟩ := hni
        have hG10 := G.trans hG9 hg10
        have hd13 := hg10.cell hps9 hd11
        have hd14 := hg10.cell hps9 hd12
        have hps10 := G.lt hg10 hps9
        clear hg10 hG9 hd11 hd12 hps9 hpn1 HNI
        go_wp2_with fail
        have HNS : Hid (pn < w10.heap.size) := hpn2
        have HNI : Hid (IntIs w10 pn 0 (SV : Int)) := hpni
        clear hpn2 hpni
        obtain ⟨kk, hkk⟩ : ∃ kk : Nat, (kk : Int) = PL + bi - 1 := ⟨(PL + bi - 1).toNat, by omega⟩
        have hkb : kk ≤ 2000 := by omega
        have HW1 : Hid (IntKind.i64.wrap (IntKind.i64.wrap (PL + bi) - 1) = (kk : Int)) := by
          show IntKind.i64.wrap (IntKind.i64.wrap (PL + bi) - 1) = (kk : Int)
          rw [IntWalk.i64_in (PL + bi) (by omega), IntWalk.i64_in _ (by omega), hkk]
        have HW2 : Hid (IntKind.u64.wrap (F : Int) = (F : Int)) := IntWalk.u64_in _ (by omega)
        have HKK : Hid (-9223372036854775808 ≤ (kk : Int) ∧ (kk : Int) ≤ 9223372036854775807) := ⟨by omega, by omega⟩
        have HKB : Hid ((kk : Int).natAbs < 2 ^ (32 * 2)) := by show (kk : Int).natAbs < 2 ^ (32 * 2); omega
        have hF23 : 2 ^ F ≤ 2 ^ 23 := pow_le (by omega)
        have hF24 : 2 ^ (F + 1) ≤ 2 ^ 24 := pow_le (by omega)
        have hkF : kk * 2 ^ F ≤ 2000 * 2 ^ 23 := Nat.mul_le_mul hkb hF23
        have hsl := HSL.out
        obtain ⟨ST, hST⟩ : ∃ ST, ST = SV + kk * 2 ^ F := ⟨_, rfl⟩
        have hkFi : (kk : Int) * 2 ^ F = ((kk * 2 ^ F : Nat) : Int) := by rw [FT.ipow]; push_cast; rfl
        have HSTE : Hid ((SV : Int) + (kk : Int) * 2 ^ F = (ST : Int)) := by show (SV : Int) + (kk : Int) * 2 ^ F = (ST : Int); rw [hkFi, hST]; push_cast; rfl
        have HAB : Hid ((SV : Int).natAbs < 2 ^ (32 * 2) ∧ ((kk : Int) * 2 ^ F).natAbs < 2 ^ (32 * 2)) := ⟨by rw [Int.natAbs_natCast]; omega, by rw [hkFi, Int.natAbs_natCast]; omega⟩
        have HST64 : Hid ((ST : Int).natAbs < 2 ^ (32 * 2)) := by show (ST : Int).natAbs < 2 ^ (32 * 2); rw [Int.natAbs_natCast]; omega
        have HST64u : Hid ((ST : Int).natAbs < 2 ^ 64) := by show (ST : Int).natAbs < 2 ^ 64; rw [Int.natAbs_natCast]; omega
        have HI64 : Hid (I < 2 ^ 64) := by show I < 2 ^ 64; have := HIB.out; omega
        have HI64i : Hid ((I : Int).natAbs < 2 ^ (32 * 2)) := by show (I : Int).natAbs < 2 ^ (32 * 2); rw [Int.natAbs_natCast]; have := HIB.out; omega
        have HSTD : Hid (ST = stepsV E F mag e0) := by
          show ST = stepsV E F mag e0
          have h1 : placeV E mag e0 = PL := by
            unfold placeV
            rw [← HMG.out.2.2.2.2, HPL.out, HBI.out]
            congr 1
            omega
          unfold stepsV
          rw [h1, hST, HSVE.out, Nat.add_comm, show (PL - (2 - 2 ^ (E - 1))).toNat = kk from by have := HBI.out; omega]
        clear hkb hF23 hF24 hkF hsl hST hkFi hkk HSVE HSL HPL
        apply share
        · intro L17
          refine region_J 12 (G w10) (by kernel_rfl) (by first | exact (G.refl _).drew | exact G.drew (by assumption)) ?_
          intro hSh
          refine wpAnyJ_take (i := 1) (v := ?_) rfl (by kernel_rfl) (by kernel_rfl) (by kernel_rfl) (by kernel_rfl) (by kernel_rfl) (by kernel_rfl) (by kernel_rfl) (fun _ _ _ h => h) (Or.inl ⟨by rfl, ?_⟩) (by assumption) ?_
          rotate_left
          · intro wq hwq
            have hq11 := G.cell (p := ⟨pf, 0, none⟩) (v := .int .i64 E) hwq (by first | assumption | (simp; done) | (simp; omega) | omega) (by assumption)
            have hq12 := G.cell (p := ⟨pf, 1, none⟩) (v := .int .i64 F) hwq (by first | assumption | (simp; done) | (simp; omega) | omega) (by assumption)
            first | (go_simp; done) | (go_simp; with_reducible rfl)
          try simp only [Act.put, List.setIfInBounds_toArray, List.set_cons_zero, List.set_cons_succ]
          refine wpAnyJ_take (i := 3) (v := ?_) rfl (by kernel_rfl) (by kernel_rfl) (by kernel_rfl) (by kernel_rfl) (by kernel_rfl) (by kernel_rfl) (by kernel_rfl) (fun _ _ _ h => h) (Or.inl ⟨by rfl, ?_⟩) (by assumption) ?_
          rotate_left
          · intro wq hwq
            have hq13 := G.cell (p := ⟨pf, 0, none⟩) (v := .int .i64 E) hwq (by first | assumption | (simp; done) | (simp; omega) | omega) (by assumption)
            have hq14 := G.cell (p := ⟨pf, 1, none⟩) (v := .int .i64 F) hwq (by first | assumption | (simp; done) | (simp; omega) | omega) (by assumption)
            first | (go_simp; done) | (go_simp; with_reducible rfl)
          try simp only [Act.put, List.setIfInBounds_toArray, List.set_cons_zero, List.set_cons_succ]
          refine wpAnyJ_take (i := 4) (v := ?_) rfl (by kernel_rfl) (by kernel_rfl) (by kernel_rfl) (by kernel_rfl) (by kernel_rfl) (by kernel_rfl) (by kernel_rfl) (fun _ _ _ h => h) (Or.inl ⟨by rfl, ?_⟩) (by assumption) ?_
          rotate_left
          · intro wq hwq
            have hq15 := G.cell (p := ⟨pf, 0, none⟩) (v := .int .i64 E) hwq (by first | assumption | (simp; done) | (simp; omega) | omega) (by assumption)
            have hq16 := G.cell (p := ⟨pf, 1, none⟩) (v := .int .i64 F) hwq (by first | assumption | (simp; done) | (simp; omega) | omega) (by assumption)
            first | (go_simp; done) | (go_simp; with_reducible rfl)
          try simp only [Act.put, List.setIfInBounds_toArray, List.set_cons_zero, List.set_cons_succ]
          refine wpAnyJ_take (i := 5) (v := ?_) rfl (by kernel_rfl) (by kernel_rfl) (by kernel_rfl) (by kernel_rfl) (by kernel_rfl) (by kernel_rfl) (by kernel_rfl) (fun _ _ _ h => h) (Or.inl ⟨by rfl, ?_⟩) (by assumption) ?_
          rotate_left
          · intro wq hwq
            have hq17 := G.cell (p := ⟨pf, 0, none⟩) (v := .int .i64 E) hwq (by first | assumption | (simp; done) | (simp; omega) | omega) (by assumption)
            have hq18 := G.cell (p := ⟨pf, 1, none⟩) (v := .int .i64 F) hwq (by first | assumption | (simp; done) | (simp; omega) | omega) (by assumption)
            first | (go_simp; done) | (go_simp; with_reducible rfl)
          try simp only [Act.put, List.setIfInBounds_toArray, List.set_cons_zero, List.set_cons_succ]
          refine wpAnyJ_take (i := 6) (v := ?_) rfl (by kernel_rfl) (by kernel_rfl) (by kernel_rfl) (by kernel_rfl) (by kernel_rfl) (by kernel_rfl) (by kernel_rfl) (fun _ _ _ h => h) (Or.inl ⟨by rfl, ?_⟩) (by assumption) ?_
          rotate_left
          · intro wq hwq
            have hq19 := G.cell (p := ⟨pf, 0, none⟩) (v := .int .i64 E) hwq (by first | assumption | (simp; done) | (simp; omega) | omega) (by assumption)
            have hq20 := G.cell (p := ⟨pf, 1, none⟩) (v := .int .i64 F) hwq (by first | assumption | (simp; done) | (simp; omega) | omega) (by assumption)
            first | (go_simp; done) | (go_simp; with_reducible rfl)
          try simp only [Act.put, List.setIfInBounds_toArray, List.set_cons_zero, List.set_cons_succ]
          refine wpAnyJ_take (i := 8) (v := ?_) rfl (by kernel_rfl) (by kernel_rfl) (by kernel_rfl) (by kernel_rfl) (by kernel_rfl) (by kernel_rfl) (by kernel_rfl) (fun _ _ _ h => h) (Or.inl ⟨by rfl, ?_⟩) (by assumption) ?_
          rotate_left
          · intro wq hwq
            have hq21 := G.cell (p := ⟨pf, 0, none⟩) (v := .int .i64 E) hwq (by first | assumption | (simp; done) | (simp; omega) | omega) (by assumption)
            have hq22 := G.cell (p := ⟨pf, 1, none⟩) (v := .int .i64 F) hwq (by first | assumption | (simp; done) | (simp; omega) | omega) (by assumption)
            first | (go_simp; done) | (go_simp; with_reducible rfl)
          try simp only [Act.put, List.setIfInBounds_toArray, List.set_cons_zero, List.set_cons_succ]
          refine wpAnyJ_take (i := 9) (v := ?_) rfl (by kernel_rfl) (by kernel_rfl) (by kernel_rfl) (by kernel_rfl) (by kernel_rfl) (by kernel_rfl) (by kernel_rfl) (fun _ _ _ h => h) (Or.inl ⟨by rfl, ?_⟩) (by assumption) ?_
          rotate_left
          · intro wq hwq
            have hq23 := G.cell (p := ⟨pf, 0, none⟩) (v := .int .i64 E) hwq (by first | assumption | (simp; done) | (simp; omega) | omega) (by assumption)
            have hq24 := G.cell (p := ⟨pf, 1, none⟩) (v := .int .i64 F) hwq (by first | assumption | (simp; done) | (simp; omega) | omega) (by assumption)
            first | (go_simp; done) | (go_simp; with_reducible rfl)
          try simp only [Act.put, List.setIfInBounds_toArray, List.set_cons_zero, List.set_cons_succ]
          refine wpAnyJ_take (i := 10) (v := ?_) rfl (by kernel_rfl) (by kernel_rfl) (by kernel_rfl) (by kernel_rfl) (by kernel_rfl) (by kernel_rfl) (by kernel_rfl) (fun _ _ _ h => h) (Or.inl ⟨by rfl, ?_⟩) (by assumption) ?_
          rotate_left
          · intro wq hwq
            have hq25 := G.cell (p := ⟨pf, 0, none⟩) (v := .int .i64 E) hwq (by first | assumption | (simp; done) | (simp; omega) | omega) (by assumption)
            have hq26 := G.cell (p := ⟨pf, 1, none⟩) (v := .int .i64 F) hwq (by first | assumption | (simp; done) | (simp; omega) | omega) (by assumption)
            first | (go_simp; done) | (go_simp; with_reducible rfl)
          try simp only [Act.put, List.setIfInBounds_toArray, List.set_cons_zero, List.set_cons_succ]
          show wpAnyJ _ _ _ _ _ _ _ _ _ w10.drew
          rw [HW1.out, HW2.out]
          have hS11 := hSh
          generalize w10.drew = w11 at *
          clear hSh
          refine wpAnyJ_three (i := 0) (j := 2) (l := 7) (by kernel_rfl) rfl rfl rfl ?_ ?_ ?_
          · skip
            intro K hK
            go_simp
            refine hK.out _ _ (Or.inr (hS11.alloc _)) ?_
            clear hK K
            have hn := NI.new hS11 62
            have hal := (G.refl w11).alloc (.cells #[.bool false, .slice none 0 0] 62)
            have hS12 := G.trans hS11 hal
            generalize w11.heap.size = pb at *
            generalize w11.alloc (.cells #[.bool false, .slice none 0 0] 62) = w12 at *
            have HB12 : Hid (NI w10 w12 pb 0) := hn
            clear hn hal hS11
            refine wpAnyJ_two (i := 2) (j := 7) (by kernel_rfl) rfl rfl ?_ ?_
            · skip
              intro K hK
              go_simp
              refine hK.out _ _ (Or.inr (hS12.alloc _)) ?_
              clear hK K
              have hn := NI.new hS12 62
              have hal := (G.refl w12).alloc (.cells #[.bool false, .slice none 0 0] 62)
              have hS13 := G.trans hS12 hal
              have HBt := HB12.out.G hal
              have hne : w12.heap.size ≠ pb := by have := HB12.out.2.1; omega
              generalize w12.heap.size = pl at *
              generalize w12.alloc (.cells #[.bool false, .slice none 0 0] 62) = w13 at *
              have HL13 : Hid (NI w10 w13 pl 0) := hn
              have HB13 : Hid (NI w10 w13 pb 0) := HBt
              have HNE : Hid (pb ≠ pl) := hne.symm
              clear hn hal hS12 HB12 HBt hne
              refine wpAnyJ_next (i := 7) (by kernel_rfl) rfl ?_
              intro K hK
              go_simp
              go_wp2_with (go_at_call 34; refine Calls.mono (P := Try.prog) (newI_c w13 (kk : Int) HKK.out) ?_; intro e w14 hx; obtain ⟨p7, rfl, hg, h71, h72, h73⟩ := hx)
              refine hK.out _ _ (Or.inr (G.trans hS13 hg)) ?_
              clear hK K
              have hS14 := G.trans hS13 hg
              have hsz := hS13.size
              have HW14 : Hid (NI w10 w14 p7 (kk : Int)) := ⟨by omega, h72, h73⟩
              have HB14 : Hid (NI w10 w14 pb 0) := HB13.out.G hg
              have HL14 : Hid (NI w10 w14 pl 0) := HL13.out.G hg
              clear hg h71 h72 h73 hsz hS13 HB13 HL13
              refine wpAnyJ_next (i := 11) (by kernel_rfl) rfl ?_
              intro K hK
              go_simp
              have HLS : Hid _ := lshI_c w14 pl 0 p7 0 F 0 (kk : Int) 2 (by omega) (by omega) HKB.out HL14.out.2.1 HW14.out.2.1 HL14.out.2.2 HW14.out.2.2
              go_wp2_with (go_at_call 33; refine Calls.mono (P := Try.prog) HLS.out ?_; intro e w15 hx; obtain ⟨rfl, hS15, hl, -, hkp⟩ := SetTo.step hS14 HL14.out hx)
              have HL15 : Hid (NI w10 w15 pl ((kk : Int) * 2 ^ F)) := hl
              have HB15 : Hid (NI w10 w15 pb 0) := hkp pb 0 HNE.out HB14.out
              refine hK.out _ _ (Or.inr hS15) ?_
              clear hK K hx hl hkp HLS hS14 HL14 HW14 HB14
              have HAD : Hid _ := addI_c w15 pb 0 pn 0 pl 0 0 (SV : Int) ((kk : Int) * 2 ^ F) 2 (by omega) HAB.out.1 HAB.out.2 HB15.out.2.1 (G.lt hS15 HNS.out) HL15.out.2.1 HB15.out.2.2 (IntIs.G HNI.out HNS.out hS15) HL15.out.2.2
              refine wpAnyJ_next (i := 12) (by kernel_rfl) rfl ?_
              intro K hK
              go_simp
              go_wp2_with (go_at_call 32; refine Calls.mono (P := Try.prog) HAD.out ?_; intro e w16 hx; obtain ⟨rfl, hS16, hb16, -, -⟩ := SetTo.step hS15 HB15.out hx)
              refine hK.out _ _ (Or.inl (by decide)) ?_
              rw [HSTE.out] at hb16
              have HB16 : Hid (NI w10 w16 pb (ST : Int)) := hb16
              have hG16 := G.trans hG10 hS16
              clear hK K hx hb16 HAD HB15 HL15 hS15 hS16 HNE
              refine wpAnyJ_next (i := 13) (by kernel_rfl) rfl ?_
              intro K hK
              go_simp
              refine hK.out _ _ (Or.inl (by decide)) ?_
              clear hK K
              refine wpAnyJ_done (by kernel_rfl) ?_ _
              revert HB16
              revert hG16
              revert p7
              revert pl
              revert pb
              revert w16
              exact L17.out
            · as_aux_lemma =>
                intro K hK
                go_simp
                go_wp2_with (go_at_call 34; refine Calls.mono (P := Try.prog) (newI_c w12 (kk : Int) HKK.out) ?_; intro e w13 hx; obtain ⟨p7, rfl, hg, h71, h72, h73⟩ := hx)
                refine hK.out _ _ (Or.inr (G.trans hS12 hg)) ?_
                clear hK K
                have hS13 := G.trans hS12 hg
                have hsz := hS12.size
                have HW13 : Hid (NI w10 w13 p7 (kk : Int)) := ⟨by omega, h72, h73⟩
                have HB13 : Hid (NI w10 w13 pb 0) := HB12.out.G hg
                clear hg h71 h72 h73 hsz hS12 HB12
                refine wpAnyJ_next (i := 2) (by kernel_rfl) rfl ?_
                intro K hK
                go_simp
                refine hK.out _ _ (Or.inr (hS13.alloc _)) ?_
                clear hK K
                have hn := NI.new hS13 62
                have hal := (G.refl w13).alloc (.cells #[.bool false, .slice none 0 0] 62)
                have hS14 := G.trans hS13 hal
                have HBt := HB13.out.G hal
                have HWt := HW13.out.G hal
                have hne : w13.heap.size ≠ pb := by have := HB13.out.2.1; omega
                generalize w13.heap.size = pl at *
                generalize w13.alloc (.cells #[.bool false, .slice none 0 0] 62) = w14 at *
                have HL14 : Hid (NI w10 w14 pl 0) := hn
                have HB14 : Hid (NI w10 w14 pb 0) := HBt
                have HW14 : Hid (NI w10 w14 p7 (kk : Int)) := HWt
                have HNE : Hid (pb ≠ pl) := hne.symm
                clear hn hal hS13 HB13 HBt HW13 HWt hne
                refine wpAnyJ_next (i := 11) (by kernel_rfl) rfl ?_
                intro K hK
                go_simp
                have HLS : Hid _ := lshI_c w14 pl 0 p7 0 F 0 (kk : Int) 2 (by omega) (by omega) HKB.out HL14.out.2.1 HW14.out.2.1 HL14.out.2.2 HW14.out.2.2
                go_wp2_with (go_at_call 33; refine Calls.mono (P := Try.prog) HLS.out ?_; intro e w15 hx; obtain ⟨rfl, hS15, hl, -, hkp⟩ := SetTo.step hS14 HL14.out hx)
                have HL15 : Hid (NI w10 w15 pl ((kk : Int) * 2 ^ F)) := hl
                have HB15 : Hid (NI w10 w15 pb 0) := hkp pb 0 HNE.out HB14.out
                refine hK.out _ _ (Or.inr hS15) ?_
                clear hK K hx hl hkp HLS hS14 HL14 HW14 HB14
                have HAD : Hid _ := addI_c w15 pb 0 pn 0 pl 0 0 (SV : Int) ((kk : Int) * 2 ^ F) 2 (by omega) HAB.out.1 HAB.out.2 HB15.out.2.1 (G.lt hS15 HNS.out) HL15.out.2.1 HB15.out.2.2 (IntIs.G HNI.out HNS.out hS15) HL15.out.2.2
                refine wpAnyJ_next (i := 12) (by kernel_rfl) rfl ?_
                intro K hK
                go_simp
                go_wp2_with (go_at_call 32; refine Calls.mono (P := Try.prog) HAD.out ?_; intro e w16 hx; obtain ⟨rfl, hS16, hb16, -, -⟩ := SetTo.step hS15 HB15.out hx)
                refine hK.out _ _ (Or.inl (by decide)) ?_
                rw [HSTE.out] at hb16
                have HB16 : Hid (NI w10 w16 pb (ST : Int)) := hb16
                have hG16 := G.trans hG10 hS16
                clear hK K hx hb16 HAD HB15 HL15 hS15 hS16 HNE
                refine wpAnyJ_next (i := 13) (by kernel_rfl) rfl ?_
                intro K hK
                go_simp
                refine hK.out _ _ (Or.inl (by decide)) ?_
                clear hK K
                refine wpAnyJ_done (by kernel_rfl) ?_ _
                revert HB16
                revert hG16
                revert p7
                revert pl
                revert pb
                revert w16
                exact L17.out
          · as_aux_lemma =>
              intro K hK
              go_simp
              refine hK.out _ _ (Or.inr (hS11.alloc _)) ?_
              clear hK K
              have hn := NI.new hS11 62
              have hal := (G.refl w11).alloc (.cells #[.bool false, .slice none 0 0] 62)
              have hS12 := G.trans hS11 hal
              generalize w11.heap.size = pl at *
              generalize w11.alloc (.cells #[.bool false, .slice none 0 0] 62) = w12 at *
              have HL12 : Hid (NI w10 w12 pl 0) := hn
              clear hn hal hS11
              refine wpAnyJ_two (i := 0) (j := 7) (by kernel_rfl) rfl rfl ?_ ?_
              · as_aux_lemma =>
                  intro K hK
                  go_simp
                  refine hK.out _ _ (Or.inr (hS12.alloc _)) ?_
                  clear hK K
                  have hn := NI.new hS12 62
                  have hal := (G.refl w12).alloc (.cells #[.bool false, .slice none 0 0] 62)
                  have hS13 := G.trans hS12 hal
                  have HLt := HL12.out.G hal
                  have hne : w12.heap.size ≠ pl := by have := HL12.out.2.1; omega
                  generalize w12.heap.size = pb at *
                  generalize w12.alloc (.cells #[.bool false, .slice none 0 0] 62) = w13 at *
                  have HB13 : Hid (NI w10 w13 pb 0) := hn
                  have HL13 : Hid (NI w10 w13 pl 0) := HLt
                  have HNE : Hid (pb ≠ pl) := hne
                  clear hn hal hS12 HL12 HLt hne
                  refine wpAnyJ_next (i := 7) (by kernel_rfl) rfl ?_
                  intro K hK
                  go_simp
                  go_wp2_with (go_at_call 34; refine Calls.mono (P := Try.prog) (newI_c w13 (kk : Int) HKK.out) ?_; intro e w14 hx; obtain ⟨p7, rfl, hg, h71, h72, h73⟩ := hx)
                  refine hK.out _ _ (Or.inr (G.trans hS13 hg)) ?_
                  clear hK K
                  have hS14 := G.trans hS13 hg
                  have hsz := hS13.size
                  have HW14 : Hid (NI w10 w14 p7 (kk : Int)) := ⟨by omega, h72, h73⟩
                  have HB14 : Hid (NI w10 w14 pb 0) := HB13.out.G hg
                  have HL14 : Hid (NI w10 w14 pl 0) := HL13.out.G hg
                  clear hg h71 h72 h73 hsz hS13 HB13 HL13
                  refine wpAnyJ_next (i := 11) (by kernel_rfl) rfl ?_
                  intro K hK
                  go_simp
                  have HLS : Hid _ := lshI_c w14 pl 0 p7 0 F 0 (kk : Int) 2 (by omega) (by omega) HKB.out HL14.out.2.1 HW14.out.2.1 HL14.out.2.2 HW14.out.2.2
                  go_wp2_with (go_at_call 33; refine Calls.mono (P := Try.prog) HLS.out ?_; intro e w15 hx; obtain ⟨rfl, hS15, hl, -, hkp⟩ := SetTo.step hS14 HL14.out hx)
                  have HL15 : Hid (NI w10 w15 pl ((kk : Int) * 2 ^ F)) := hl
                  have HB15 : Hid (NI w10 w15 pb 0) := hkp pb 0 HNE.out HB14.out
                  refine hK.out _ _ (Or.inr hS15) ?_
                  clear hK K hx hl hkp HLS hS14 HL14 HW14 HB14
                  have HAD : Hid _ := addI_c w15 pb 0 pn 0 pl 0 0 (SV : Int) ((kk : Int) * 2 ^ F) 2 (by omega) HAB.out.1 HAB.out.2 HB15.out.2.1 (G.lt hS15 HNS.out) HL15.out.2.1 HB15.out.2.2 (IntIs.G HNI.out HNS.out hS15) HL15.out.2.2
                  refine wpAnyJ_next (i := 12) (by kernel_rfl) rfl ?_
                  intro K hK
                  go_simp
                  go_wp2_with (go_at_call 32; refine Calls.mono (P := Try.prog) HAD.out ?_; intro e w16 hx; obtain ⟨rfl, hS16, hb16, -, -⟩ := SetTo.step hS15 HB15.out hx)
                  refine hK.out _ _ (Or.inl (by decide)) ?_
                  rw [HSTE.out] at hb16
                  have HB16 : Hid (NI w10 w16 pb (ST : Int)) := hb16
                  have hG16 := G.trans hG10 hS16
                  clear hK K hx hb16 HAD HB15 HL15 hS15 hS16 HNE
                  refine wpAnyJ_next (i := 13) (by kernel_rfl) rfl ?_
                  intro K hK
                  go_simp
                  refine hK.out _ _ (Or.inl (by decide)) ?_
                  clear hK K
                  refine wpAnyJ_done (by kernel_rfl) ?_ _
                  revert HB16
                  revert hG16
                  revert p7
                  revert pl
                  revert pb
                  revert w16
                  exact L17.out
              · as_aux_lemma =>
                  intro K hK
                  go_simp
                  go_wp2_with (go_at_call 34; refine Calls.mono (P := Try.prog) (newI_c w12 (kk : Int) HKK.out) ?_; intro e w13 hx; obtain ⟨p7, rfl, hg, h71, h72, h73⟩ := hx)
                  refine hK.out _ _ (Or.inr (G.trans hS12 hg)) ?_
                  clear hK K
                  have hS13 := G.trans hS12 hg
                  have hsz := hS12.size
                  have HW13 : Hid (NI w10 w13 p7 (kk : Int)) := ⟨by omega, h72, h73⟩
                  have HL13 : Hid (NI w10 w13 pl 0) := HL12.out.G hg
                  clear hg h71 h72 h73 hsz hS12 HL12
                  refine wpAnyJ_two (i := 0) (j := 11) (by kernel_rfl) rfl rfl ?_ ?_
                  · as_aux_lemma =>
                      intro K hK
                      go_simp
                      refine hK.out _ _ (Or.inr (hS13.alloc _)) ?_
                      clear hK K
                      have hn := NI.new hS13 62
                      have hal := (G.refl w13).alloc (.cells #[.bool false, .slice none 0 0] 62)
                      have hS14 := G.trans hS13 hal
                      have HLt := HL13.out.G hal
                      have HWt := HW13.out.G hal
                      have hne : w13.heap.size ≠ pl := by have := HL13.out.2.1; omega
                      generalize w13.heap.size = pb at *
                      generalize w13.alloc (.cells #[.bool false, .slice none 0 0] 62) = w14 at *
                      have HB14 : Hid (NI w10 w14 pb 0) := hn
                      have HL14 : Hid (NI w10 w14 pl 0) := HLt
                      have HW14 : Hid (NI w10 w14 p7 (kk : Int)) := HWt
                      have HNE : Hid (pb ≠ pl) := hne
                      clear hn hal hS13 HL13 HLt HW13 HWt hne
                      refine wpAnyJ_next (i := 11) (by kernel_rfl) rfl ?_
                      intro K hK
                      go_simp
                      have HLS : Hid _ := lshI_c w14 pl 0 p7 0 F 0 (kk : Int) 2 (by omega) (by omega) HKB.out HL14.out.2.1 HW14.out.2.1 HL14.out.2.2 HW14.out.2.2
                      go_wp2_with (go_at_call 33; refine Calls.mono (P := Try.prog) HLS.out ?_; intro e w15 hx; obtain ⟨rfl, hS15, hl, -, hkp⟩ := SetTo.step hS14 HL14.out hx)
                      have HL15 : Hid (NI w10 w15 pl ((kk : Int) * 2 ^ F)) := hl
                      have HB15 : Hid (NI w10 w15 pb 0) := hkp pb 0 HNE.out HB14.out
                      refine hK.out _ _ (Or.inr hS15) ?_
                      clear hK K hx hl hkp HLS hS14 HL14 HW14 HB14
                      have HAD : Hid _ := addI_c w15 pb 0 pn 0 pl 0 0 (SV : Int) ((kk : Int) * 2 ^ F) 2 (by omega) HAB.out.1 HAB.out.2 HB15.out.2.1 (G.lt hS15 HNS.out) HL15.out.2.1 HB15.out.2.2 (IntIs.G HNI.out HNS.out hS15) HL15.out.2.2
                      refine wpAnyJ_next (i := 12) (by kernel_rfl) rfl ?_
                      intro K hK
                      go_simp
                      go_wp2_with (go_at_call 32; refine Calls.mono (P := Try.prog) HAD.out ?_; intro e w16 hx; obtain ⟨rfl, hS16, hb16, -, -⟩ := SetTo.step hS15 HB15.out hx)
                      refine hK.out _ _ (Or.inl (by decide)) ?_
                      rw [HSTE.out] at hb16
                      have HB16 : Hid (NI w10 w16 pb (ST : Int)) := hb16
                      have hG16 := G.trans hG10 hS16
                      clear hK K hx hb16 HAD HB15 HL15 hS15 hS16 HNE
                      refine wpAnyJ_next (i := 13) (by kernel_rfl) rfl ?_
                      intro K hK
                      go_simp
                      refine hK.out _ _ (Or.inl (by decide)) ?_
                      clear hK K
                      refine wpAnyJ_done (by kernel_rfl) ?_ _
                      revert HB16
                      revert hG16
                      revert p7
                      revert pl
                      revert pb
                      revert w16
                      exact L17.out
                  · as_aux_lemma =>
                      intro K hK
                      go_simp
                      have HLS : Hid _ := lshI_c w13 pl 0 p7 0 F 0 (kk : Int) 2 (by omega) (by omega) HKB.out HL13.out.2.1 HW13.out.2.1 HL13.out.2.2 HW13.out.2.2
                      go_wp2_with (go_at_call 33; refine Calls.mono (P := Try.prog) HLS.out ?_; intro e w14 hx; obtain ⟨rfl, hS14, hl, -, hkp⟩ := SetTo.step hS13 HL13.out hx)
                      have HL14 : Hid (NI w10 w14 pl ((kk : Int) * 2 ^ F)) := hl
                      refine hK.out _ _ (Or.inr hS14) ?_
                      clear hK K hx hl hkp HLS hS13 HL13 HW13
                      refine wpAnyJ_next (i := 0) (by kernel_rfl) rfl ?_
                      intro K hK
                      go_simp
                      refine hK.out _ _ (Or.inr (hS14.alloc _)) ?_
                      clear hK K
                      have hn := NI.new hS14 62
                      have hal := (G.refl w14).alloc (.cells #[.bool false, .slice none 0 0] 62)
                      have hS15 := G.trans hS14 hal
                      have HLt := HL14.out.G hal
                      have hne : w14.heap.size ≠ pl := by have := HL14.out.2.1; omega
                      generalize w14.heap.size = pb at *
                      generalize w14.alloc (.cells #[.bool false, .slice none 0 0] 62) = w15 at *
                      have HB15 : Hid (NI w10 w15 pb 0) := hn
                      have HL15 : Hid (NI w10 w15 pl ((kk : Int) * 2 ^ F)) := HLt
                      have HNE : Hid (pb ≠ pl) := hne
                      clear hn hal hS14 HL14 HLt hne
                      have HAD : Hid _ := addI_c w15 pb 0 pn 0 pl 0 0 (SV : Int) ((kk : Int) * 2 ^ F) 2 (by omega) HAB.out.1 HAB.out.2 HB15.out.2.1 (G.lt hS15 HNS.out) HL15.out.2.1 HB15.out.2.2 (IntIs.G HNI.out HNS.out hS15) HL15.out.2.2
                      refine wpAnyJ_next (i := 12) (by kernel_rfl) rfl ?_
                      intro K hK
                      go_simp
                      go_wp2_with (go_at_call 32; refine Calls.mono (P := Try.prog) HAD.out ?_; intro e w16 hx; obtain ⟨rfl, hS16, hb16, -, -⟩ := SetTo.step hS15 HB15.out hx)
                      refine hK.out _ _ (Or.inl (by decide)) ?_
                      rw [HSTE.out] at hb16
                      have HB16 : Hid (NI w10 w16 pb (ST : Int)) := hb16
                      have hG16 := G.trans hG10 hS16
                      clear hK K hx hb16 HAD HB15 HL15 hS15 hS16 HNE
                      refine wpAnyJ_next (i := 13) (by kernel_rfl) rfl ?_
                      intro K hK
                      go_simp
                      refine hK.out _ _ (Or.inl (by decide)) ?_
                      clear hK K
                      refine wpAnyJ_done (by kernel_rfl) ?_ _
                      revert HB16
                      revert hG16
                      revert p7
                      revert pl
                      revert pb
                      revert w16
                      exact L17.out
          · as_aux_lemma =>
              intro K hK
              go_simp
              go_wp2_with (go_at_call 34; refine Calls.mono (P := Try.prog) (newI_c w11 (kk : Int) HKK.out) ?_; intro e w12 hx; obtain ⟨p7, rfl, hg, h71, h72, h73⟩ := hx)
              refine hK.out _ _ (Or.inr (G.trans hS11 hg)) ?_
              clear hK K
              have hS12 := G.trans hS11 hg
              have hsz := hS11.size
              have HW12 : Hid (NI w10 w12 p7 (kk : Int)) := ⟨by omega, h72, h73⟩
              clear hg h71 h72 h73 hsz hS11
              refine wpAnyJ_two (i := 0) (j := 2) (by kernel_rfl) rfl rfl ?_ ?_
              · as_aux_lemma =>
                  intro K hK
                  go_simp
                  refine hK.out _ _ (Or.inr (hS12.alloc _)) ?_
                  clear hK K
                  have hn := NI.new hS12 62
                  have hal := (G.refl w12).alloc (.cells #[.bool false, .slice none 0 0] 62)
                  have hS13 := G.trans hS12 hal
                  have HWt := HW12.out.G hal
                  generalize w12.heap.size = pb at *
                  generalize w12.alloc (.cells #[.bool false, .slice none 0 0] 62) = w13 at *
                  have HB13 : Hid (NI w10 w13 pb 0) := hn
                  have HW13 : Hid (NI w10 w13 p7 (kk : Int)) := HWt
                  clear hn hal hS12 HW12 HWt
                  refine wpAnyJ_next (i := 2) (by kernel_rfl) rfl ?_
                  intro K hK
                  go_simp
                  refine hK.out _ _ (Or.inr (hS13.alloc _)) ?_
                  clear hK K
                  have hn := NI.new hS13 62
                  have hal := (G.refl w13).alloc (.cells #[.bool false, .slice none 0 0] 62)
                  have hS14 := G.trans hS13 hal
                  have HBt := HB13.out.G hal
                  have HWt := HW13.out.G hal
                  have hne : w13.heap.size ≠ pb := by have := HB13.out.2.1; omega
                  generalize w13.heap.size = pl at *
                  generalize w13.alloc (.cells #[.bool false, .slice none 0 0] 62) = w14 at *
                  have HL14 : Hid (NI w10 w14 pl 0) := hn
                  have HB14 : Hid (NI w10 w14 pb 0) := HBt
                  have HW14 : Hid (NI w10 w14 p7 (kk : Int)) := HWt
                  have HNE : Hid (pb ≠ pl) := hne.symm
                  clear hn hal hS13 HB13 HBt HW13 HWt hne
                  refine wpAnyJ_next (i := 11) (by kernel_rfl) rfl ?_
                  intro K hK
                  go_simp
                  have HLS : Hid _ := lshI_c w14 pl 0 p7 0 F 0 (kk : Int) 2 (by omega) (by omega) HKB.out HL14.out.2.1 HW14.out.2.1 HL14.out.2.2 HW14.out.2.2
                  go_wp2_with (go_at_call 33; refine Calls.mono (P := Try.prog) HLS.out ?_; intro e w15 hx; obtain ⟨rfl, hS15, hl, -, hkp⟩ := SetTo.step hS14 HL14.out hx)
                  have HL15 : Hid (NI w10 w15 pl ((kk : Int) * 2 ^ F)) := hl
                  have HB15 : Hid (NI w10 w15 pb 0) := hkp pb 0 HNE.out HB14.out
                  refine hK.out _ _ (Or.inr hS15) ?_
                  clear hK K hx hl hkp HLS hS14 HL14 HW14 HB14
                  have HAD : Hid _ := addI_c w15 pb 0 pn 0 pl 0 0 (SV : Int) ((kk : Int) * 2 ^ F) 2 (by omega) HAB.out.1 HAB.out.2 HB15.out.2.1 (G.lt hS15 HNS.out) HL15.out.2.1 HB15.out.2.2 (IntIs.G HNI.out HNS.out hS15) HL15.out.2.2
                  refine wpAnyJ_next (i := 12) (by kernel_rfl) rfl ?_
                  intro K hK
                  go_simp
                  go_wp2_with (go_at_call 32; refine Calls.mono (P := Try.prog) HAD.out ?_; intro e w16 hx; obtain ⟨rfl, hS16, hb16, -, -⟩ := SetTo.step hS15 HB15.out hx)
                  refine hK.out _ _ (Or.inl (by decide)) ?_
                  rw [HSTE.out] at hb16
                  have HB16 : Hid (NI w10 w16 pb (ST : Int)) := hb16
                  have hG16 := G.trans hG10 hS16
                  clear hK K hx hb16 HAD HB15 HL15 hS15 hS16 HNE
                  refine wpAnyJ_next (i := 13) (by kernel_rfl) rfl ?_
                  intro K hK
                  go_simp
                  refine hK.out _ _ (Or.inl (by decide)) ?_
                  clear hK K
                  refine wpAnyJ_done (by kernel_rfl) ?_ _
                  revert HB16
                  revert hG16
                  revert p7
                  revert pl
                  revert pb
                  revert w16
                  exact L17.out
              · as_aux_lemma =>
                  intro K hK
                  go_simp
                  refine hK.out _ _ (Or.inr (hS12.alloc _)) ?_
                  clear hK K
                  have hn := NI.new hS12 62
                  have hal := (G.refl w12).alloc (.cells #[.bool false, .slice none 0 0] 62)
                  have hS13 := G.trans hS12 hal
                  have HWt := HW12.out.G hal
                  generalize w12.heap.size = pl at *
                  generalize w12.alloc (.cells #[.bool false, .slice none 0 0] 62) = w13 at *
                  have HL13 : Hid (NI w10 w13 pl 0) := hn
                  have HW13 : Hid (NI w10 w13 p7 (kk : Int)) := HWt
                  clear hn hal hS12 HW12 HWt
                  refine wpAnyJ_two (i := 0) (j := 11) (by kernel_rfl) rfl rfl ?_ ?_
                  · as_aux_lemma =>
                      intro K hK
                      go_simp
                      refine hK.out _ _ (Or.inr (hS13.alloc _)) ?_
                      clear hK K
                      have hn := NI.new hS13 62
                      have hal := (G.refl w13).alloc (.cells #[.bool false, .slice none 0 0] 62)
                      have hS14 := G.trans hS13 hal
                      have HLt := HL13.out.G hal
                      have HWt := HW13.out.G hal
                      have hne : w13.heap.size ≠ pl := by have := HL13.out.2.1; omega
                      generalize w13.heap.size = pb at *
                      generalize w13.alloc (.cells #[.bool false, .slice none 0 0] 62) = w14 at *
                      have HB14 : Hid (NI w10 w14 pb 0) := hn
                      have HL14 : Hid (NI w10 w14 pl 0) := HLt
                      have HW14 : Hid (NI w10 w14 p7 (kk : Int)) := HWt
                      have HNE : Hid (pb ≠ pl) := hne
                      clear hn hal hS13 HL13 HLt HW13 HWt hne
                      refine wpAnyJ_next (i := 11) (by kernel_rfl) rfl ?_
                      intro K hK
                      go_simp
                      have HLS : Hid _ := lshI_c w14 pl 0 p7 0 F 0 (kk : Int) 2 (by omega) (by omega) HKB.out HL14.out.2.1 HW14.out.2.1 HL14.out.2.2 HW14.out.2.2
                      go_wp2_with (go_at_call 33; refine Calls.mono (P := Try.prog) HLS.out ?_; intro e w15 hx; obtain ⟨rfl, hS15, hl, -, hkp⟩ := SetTo.step hS14 HL14.out hx)
                      have HL15 : Hid (NI w10 w15 pl ((kk : Int) * 2 ^ F)) := hl
                      have HB15 : Hid (NI w10 w15 pb 0) := hkp pb 0 HNE.out HB14.out
                      refine hK.out _ _ (Or.inr hS15) ?_
                      clear hK K hx hl hkp HLS hS14 HL14 HW14 HB14
                      have HAD : Hid _ := addI_c w15 pb 0 pn 0 pl 0 0 (SV : Int) ((kk : Int) * 2 ^ F) 2 (by omega) HAB.out.1 HAB.out.2 HB15.out.2.1 (G.lt hS15 HNS.out) HL15.out.2.1 HB15.out.2.2 (IntIs.G HNI.out HNS.out hS15) HL15.out.2.2
                      refine wpAnyJ_next (i := 12) (by kernel_rfl) rfl ?_
                      intro K hK
                      go_simp
                      go_wp2_with (go_at_call 32; refine Calls.mono (P := Try.prog) HAD.out ?_; intro e w16 hx; obtain ⟨rfl, hS16, hb16, -, -⟩ := SetTo.step hS15 HB15.out hx)
                      refine hK.out _ _ (Or.inl (by decide)) ?_
                      rw [HSTE.out] at hb16
                      have HB16 : Hid (NI w10 w16 pb (ST : Int)) := hb16
                      have hG16 := G.trans hG10 hS16
                      clear hK K hx hb16 HAD HB15 HL15 hS15 hS16 HNE
                      refine wpAnyJ_next (i := 13) (by kernel_rfl) rfl ?_
                      intro K hK
                      go_simp
                      refine hK.out _ _ (Or.inl (by decide)) ?_
                      clear hK K
                      refine wpAnyJ_done (by kernel_rfl) ?_ _
                      revert HB16
                      revert hG16
                      revert p7
                      revert pl
                      revert pb
                      revert w16
                      exact L17.out
                  · as_aux_lemma =>
                      intro K hK
                      go_simp
                      have HLS : Hid _ := lshI_c w13 pl 0 p7 0 F 0 (kk : Int) 2 (by omega) (by omega) HKB.out HL13.out.2.1 HW13.out.2.1 HL13.out.2.2 HW13.out.2.2
                      go_wp2_with (go_at_call 33; refine Calls.mono (P := Try.prog) HLS.out ?_; intro e w14 hx; obtain ⟨rfl, hS14, hl, -, hkp⟩ := SetTo.step hS13 HL13.out hx)
                      have HL14 : Hid (NI w10 w14 pl ((kk : Int) * 2 ^ F)) := hl
                      refine hK.out _ _ (Or.inr hS14) ?_
                      clear hK K hx hl hkp HLS hS13 HL13 HW13
                      refine wpAnyJ_next (i := 0) (by kernel_rfl) rfl ?_
                      intro K hK
                      go_simp
                      refine hK.out _ _ (Or.inr (hS14.alloc _)) ?_
                      clear hK K
                      have hn := NI.new hS14 62
                      have hal := (G.refl w14).alloc (.cells #[.bool false, .slice none 0 0] 62)
                      have hS15 := G.trans hS14 hal
                      have HLt := HL14.out.G hal
                      have hne : w14.heap.size ≠ pl := by have := HL14.out.2.1; omega
                      generalize w14.heap.size = pb at *
                      generalize w14.alloc (.cells #[.bool false, .slice none 0 0] 62) = w15 at *
                      have HB15 : Hid (NI w10 w15 pb 0) := hn
                      have HL15 : Hid (NI w10 w15 pl ((kk : Int) * 2 ^ F)) := HLt
                      have HNE : Hid (pb ≠ pl) := hne
                      clear hn hal hS14 HL14 HLt hne
                      have HAD : Hid _ := addI_c w15 pb 0 pn 0 pl 0 0 (SV : Int) ((kk : Int) * 2 ^ F) 2 (by omega) HAB.out.1 HAB.out.2 HB15.out.2.1 (G.lt hS15 HNS.out) HL15.out.2.1 HB15.out.2.2 (IntIs.G HNI.out HNS.out hS15) HL15.out.2.2
                      refine wpAnyJ_next (i := 12) (by kernel_rfl) rfl ?_
                      intro K hK
                      go_simp
                      go_wp2_with (go_at_call 32; refine Calls.mono (P := Try.prog) HAD.out ?_; intro e w16 hx; obtain ⟨rfl, hS16, hb16, -, -⟩ := SetTo.step hS15 HB15.out hx)
                      refine hK.out _ _ (Or.inl (by decide)) ?_
                      rw [HSTE.out] at hb16
                      have HB16 : Hid (NI w10 w16 pb (ST : Int)) := hb16
                      have hG16 := G.trans hG10 hS16
                      clear hK K hx hb16 HAD HB15 HL15 hS15 hS16 HNE
                      refine wpAnyJ_next (i := 13) (by kernel_rfl) rfl ?_
                      intro K hK
                      go_simp
                      refine hK.out _ _ (Or.inl (by decide)) ?_
                      clear hK K
                      refine wpAnyJ_done (by kernel_rfl) ?_ _
                      revert HB16
                      revert hG16
                      revert p7
                      revert pl
                      revert pb
                      revert w16
                      exact L17.out
        · skip
          refine Later.mk ?_
          intro w16 pb pl p7 hG16 HB16
          clear hG10 HAB HNI HNS hps10 hd13 hd14
          go_wp2_with fail
          have hc0 := NI.new hG16 62
          have hal := (G.refl w16).alloc (.cells #[.bool false, .slice none 0 0] 62)
          have hG17 := G.trans hG16 hal
          have hbs : pb ≠ w16.heap.size := by have := HB16.out.2.1; omega
          have hb17 : NI w10 _ pb (ST : Int) := HB16.out.G hal
          generalize w16.heap.size = pc at *
          generalize w16.alloc (.cells #[.bool false, .slice none 0 0] 62) = w17 at *
          have HC17 : Hid (NI w w17 pc 0) := hc0
          have HB17 : Hid (pb < w17.heap.size ∧ IntIs w17 pb 0 (ST : Int)) := ⟨hb17.2.1, hb17.2.2⟩
          clear hc0 hal hb17 HB16 hG16
          have HSU : Hid _ := setU_c w17 pc 0 I 0 HI64.out HC17.out.2.1 HC17.out.2.2
          refine Calls.mono (P := Try.prog) HSU.out ?_
          intro e w18 hx
          have hk18 := SetTo.keep HC17.out.2.2 hx HB17.out.2 HB17.out.1 (Or.inl hbs)
          have hs18 := Nat.lt_of_lt_of_le HB17.out.1 (SetTo.size hx)
          obtain ⟨rfl, hG18, hc18, -, -⟩ := SetTo.step hG17 HC17.out hx
          have HC18 : Hid (NI w w18 pc (I : Int)) := hc18
          have HB18 : Hid (pb < w18.heap.size ∧ IntIs w18 pb 0 (ST : Int)) := ⟨hs18, hk18⟩
          clear hx hk18 hs18 hc18 HSU HC17 HB17 hG17 hbs
          go_wp2_with fail
          have HCM : Hid _ := cmpI_c w18 pb 0 pc 0 (ST : Int) (I : Int) 2 (by omega) HST64.out HI64i.out HB18.out.1 HC18.out.2.1 HB18.out.2 HC18.out.2.2
          refine Calls.mono (P := Try.prog) HCM.out ?_
          rintro e w19 ⟨rfl, hg19⟩
          have hG19 := G.trans hG18 hg19
          have hb19 := IntIs.G HB18.out.2 HB18.out.1 hg19
          have HB19 : Hid (IntIs w19 pb 0 (ST : Int)) := hb19
          clear hg19 hb19 HB18 HC18 HCM hG18
          by_cases hge : I ≤ ST
          · have hcv : decide ((0 : Int) ≤ cmpI (ST : Int) (I : Int)) = true := by unfold cmpI; rw [if_neg (by omega)]; split <;> rfl
            have hres := HSTP.out.1 (by rw [← HSTD.out]; exact hge)
            generalize cmpI (ST : Int) (I : Int) = cv at *
            have hor := HOR.out I (Nat.le_refl _)
            clear hge
            go_wp2_with fail
            go_ret
            exact ⟨ret_int (by rw [hres]; first | done | rfl | simp), hG19⟩
          · have hcv : decide ((0 : Int) ≤ cmpI (ST : Int) (I : Int)) = false := by unfold cmpI; rw [if_pos (by omega)]; rfl
            have hres := HSTP.out.2 (by rw [← HSTD.out]; exact hge)
            rw [← HSTD.out] at hres
            generalize cmpI (ST : Int) (I : Int) = cv at *
            have HUI : Hid _ := uint64I_c w19 pb 0 (ST : Int) HST64u.out HB19.out
            rw [Int.natAbs_natCast] at HUI
            have hor := HOR.out ST (by omega)
            clear hge
            go_wp2_with fail
            refine Calls.mono (P := Try.prog) HUI.out ?_
            rintro e w20 ⟨rfl, hg20⟩
            have hG20 := G.trans hG19 hg20
            go_wp2_with fail
            go_ret
            exact ⟨ret_int (by rw [hres]; first | done | rfl | simp), hG20⟩
    · obtain ⟨PL, hPL⟩ : ∃ PL, PL = T := ⟨_, rfl⟩
      have HPL : Hid (PL = max T (1 - bi)) := by show PL = max T (1 - bi); omega
      have ht1 : decide (T < 1 - bi) = false := decide_eq_false htb
      have hp1 : -130 ≤ PL := by omega
      have hp2 : PL ≤ 1030 := by omega
      have hp3 : 0 ≤ PL + bi - 1 := by omega
      go_wp2_with fail
      rw [← hPL]
      clear ht1 htb hPL
      obtain ⟨A0, B0, ya, yb, NN, DD, hya, hyb, hA0, hB0, hbd, hnd, hnb, hsv⟩ := q_facts (P := PL - F) HMG.out.1 HMG.out.2.1 HMG.out.2.2.1 (by omega) (by omega) KB hKB
      have HRT : Hid _ := HKR.out
      have HWR : Hid (IntKind.i64.wrap (PL - F) = PL - F) := by show IntKind.i64.wrap (PL - F) = PL - F; exact IntWalk.i64_in _ (by omega)
      have HPW : Hid _ := HKP.out (PL - F) (by omega) (by omega)
      rw [hA0, hB0] at HRT
      rw [← hya, ← hyb] at HPW
      have hsl : shV mag (e0 - (PL - F)) ≤ 2 ^ (F + 1) := shV_le2 mag F _ (by have h1 := HMG.out.2.2.2.2; have h2 := HPL.out; omega)
      rw [← HMG.out.2.2.2.1] at hsv
      obtain ⟨SV, hSV⟩ : ∃ SV, SV = shV mag (e0 - (PL - F)) := ⟨_, rfl⟩
      rw [← hSV] at hsv hsl
      have HSV : Hid (roundQ NN DD = SV) := hsv
      have HSVE : Hid (SV = shV mag (e0 - (PL - F))) := hSV
      have HSL : Hid (SV ≤ 2 ^ (F + 1)) := hsl
      have HBD : Hid _ := hbd
      have HND : Hid _ := hnd
      have HNB : Hid (NN < 2 ^ (32 * (2 * KB)) ∧ DD < 2 ^ (32 * (2 * KB)) ∧ 0 < DD) := hnb
      clear hya hyb hA0 hB0 hbd hnd hnb hsv hSV hsl HKR HKP
      apply share
      · intro L15
        refine region_J 8 (G w4) (by kernel_rfl) (by first | exact (G.refl _).drew | exact G.drew (by assumption)) ?_
        intro hSh
        refine wpAnyJ_take (i := 1) (v := ?_) rfl (by kernel_rfl) (by kernel_rfl) (by kernel_rfl) (by kernel_rfl) (by kernel_rfl) (by kernel_rfl) (by kernel_rfl) (fun _ _ _ h => h) (Or.inl ⟨by rfl, ?_⟩) (by assumption) ?_
        rotate_left
        · intro wq hwq
          have hq27 := G.cell (p := ⟨pf, 0, none⟩) (v := .int .i64 E) hwq (by first | assumption | (simp; done) | (simp; omega) | omega) (by assumption)
          have hq28 := G.cell (p := ⟨pf, 1, none⟩) (v := .int .i64 F) hwq (by first | assumption | (simp; done) | (simp; omega) | omega) (by assumption)
          first | (go_simp; done) | (go_simp; with_reducible rfl)
        try simp only [Act.put, List.setIfInBounds_toArray, List.set_cons_zero, List.set_cons_succ]
        refine wpAnyJ_take (i := 3) (v := ?_) rfl (by kernel_rfl) (by kernel_rfl) (by kernel_rfl) (by kernel_rfl) (by kernel_rfl) (by kernel_rfl) (by kernel_rfl) (fun _ _ _ h => h) (Or.inl ⟨by rfl, ?_⟩) (by assumption) ?_
        rotate_left
        · intro wq hwq
          have hq29 := G.cell (p := ⟨pf, 0, none⟩) (v := .int .i64 E) hwq (by first | assumption | (simp; done) | (simp; omega) | omega) (by assumption)
          have hq30 := G.cell (p := ⟨pf, 1, none⟩) (v := .int .i64 F) hwq (by first | assumption | (simp; done) | (simp; omega) | omega) (by assumption)
          first | (go_simp; done) | (go_simp; with_reducible rfl)
        try simp only [Act.put, List.setIfInBounds_toArray, List.set_cons_zero, List.set_cons_succ]
        refine wpAnyJ_take (i := 4) (v := ?_) rfl (by kernel_rfl) (by kernel_rfl) (by kernel_rfl) (by kernel_rfl) (by kernel_rfl) (by kernel_rfl) (by kernel_rfl) (fun _ _ _ h => h) (Or.inl ⟨by rfl, ?_⟩) (by assumption) ?_
        rotate_left
        · intro wq hwq
          have hq31 := G.cell (p := ⟨pf, 0, none⟩) (v := .int .i64 E) hwq (by first | assumption | (simp; done) | (simp; omega) | omega) (by assumption)
          have hq32 := G.cell (p := ⟨pf, 1, none⟩) (v := .int .i64 F) hwq (by first | assumption | (simp; done) | (simp; omega) | omega) (by assumption)
          first | (go_simp; done) | (go_simp; with_reducible rfl)
        try simp only [Act.put, List.setIfInBounds_toArray, List.set_cons_zero, List.set_cons_succ]
        refine wpAnyJ_take (i := 5) (v := ?_) rfl (by kernel_rfl) (by kernel_rfl) (by kernel_rfl) (by kernel_rfl) (by kernel_rfl) (by kernel_rfl) (by kernel_rfl) (fun _ _ _ h => h) (Or.inl ⟨by rfl, ?_⟩) (by assumption) ?_
        rotate_left
        · intro wq hwq
          have hq33 := G.cell (p := ⟨pf, 0, none⟩) (v := .int .i64 E) hwq (by first | assumption | (simp; done) | (simp; omega) | omega) (by assumption)
          have hq34 := G.cell (p := ⟨pf, 1, none⟩) (v := .int .i64 F) hwq (by first | assumption | (simp; done) | (simp; omega) | omega) (by assumption)
          first | (go_simp; done) | (go_simp; with_reducible rfl)
        try simp only [Act.put, List.setIfInBounds_toArray, List.set_cons_zero, List.set_cons_succ]
        refine wpAnyJ_take (i := 6) (v := ?_) rfl (by kernel_rfl) (by kernel_rfl) (by kernel_rfl) (by kernel_rfl) (by kernel_rfl) (by kernel_rfl) (by kernel_rfl) (fun _ _ _ h => h) (Or.inl ⟨by rfl, ?_⟩) (by assumption) ?_
        rotate_left
        · intro wq hwq
          have hq35 := G.cell (p := ⟨pf, 0, none⟩) (v := .int .i64 E) hwq (by first | assumption | (simp; done) | (simp; omega) | omega) (by assumption)
          have hq36 := G.cell (p := ⟨pf, 1, none⟩) (v := .int .i64 F) hwq (by first | assumption | (simp; done) | (simp; omega) | omega) (by assumption)
          first | (go_simp; done) | (go_simp; with_reducible rfl)
        try simp only [Act.put, List.setIfInBounds_toArray, List.set_cons_zero, List.set_cons_succ]
        show wpAnyJ _ _ _ _ _ _ _ _ _ w4.drew
        rw [HWR.out]
        have hS5 := hSh
        generalize w4.drew = w5 at *
        clear hSh
        refine wpAnyJ_two (i := 0) (j := 2) (by kernel_rfl) rfl rfl ?_ ?_
        · skip
          intro K hK
          go_simp
          refine hK.out _ _ (Or.inr (hS5.alloc _)) ?_
          clear hK K
          have hZ6 := RatZ.new w5 64
          have hS6 := hS5.alloc (.cells #[.bool false, .slice none 0 0, .bool false, .slice none 0 0] 64)
          have hzs6 : w5.heap.size < (w5.alloc (.cells #[.bool false, .slice none 0 0, .bool false, .slice none 0 0] 64)).heap.size := by simp
          obtain ⟨pq, hpq⟩ : ∃ pq, pq = w5.heap.size := ⟨_, rfl⟩
          rw [← hpq] at hZ6 hzs6 ⊢
          have hpq0 : w4.heap.size ≤ pq := by have := hS5.size; omega
          clear hpq
          generalize w5.alloc (.cells #[.bool false, .slice none 0 0, .bool false, .slice none 0 0] 64) = w6 at *
          refine wpAnyJ_next (i := 2) (by kernel_rfl) rfl ?_
          intro K hK
          go_simp
          go_wp2_with (go_at_call 29; refine Calls.mono (P := Try.prog) (HRT.out w6) ?_; intro e w7 hx; obtain ⟨p1, rfl, hg7, -, hrs7, hR7⟩ := hx)
          refine hK.out _ _ (Or.inr (G.trans hS6 hg7)) ?_
          clear hK K
          have hS7 := G.trans hS6 hg7
          have hZ7 := hZ6.G hzs6 hg7
          have hzs7 := G.lt hg7 hzs6
          clear hg7
          refine wpAnyJ_next (i := 7) (by kernel_rfl) rfl ?_
          intro K hK
          go_simp
          go_wp2_with (go_at_call 30; refine Calls.mono (P := Try.prog) (HPW.out w7) ?_; intro e w8 hx; obtain ⟨p2, rfl, hg8, -, hks8, hP8⟩ := hx)
          refine hK.out _ _ (Or.inr (G.trans hS7 hg8)) ?_
          clear hK K
          have hS8 := G.trans hS7 hg8
          have hZ8 := hZ7.G hzs7 hg8
          have hzs8 := G.lt hg8 hzs7
          have hR8 := hR7.G hrs7 hg8
          have hrs8 := G.lt hg8 hrs7
          clear hg8
          have HQ : Hid _ := quoR_c w8 pq p1 p2 0 0 A0 ya B0 yb KB (by omega) HBD.out.1 HBD.out.2.1 HBD.out.2.2.1 HBD.out.2.2.2.1 HBD.out.2.2.2.2.1 HBD.out.2.2.2.2.2.1 HBD.out.2.2.2.2.2.2 hzs8 hrs8 hks8 hZ8.rat hR8 hP8
          rw [← HND.out.1, ← HND.out.2] at HQ
          have hq0 := Nat.le_trans hG4.size hpq0
          have hG8 := G.trans hG4 hS8
          have hd9 := hS8.cell hps4 hd7
          have hd10 := hS8.cell hps4 hd8
          have hps8 := G.lt hS8 hps4
          clear hR8 hP8 hZ8 hrs8 hks8
          try clear hR7
          try clear hR6
          try clear hR5
          try clear hP7
          try clear hZ7
          try clear hZ6
          try clear hrs7
          try clear hrs6
          try clear hks7
          try clear hzs7
          try clear hzs6
          try clear hS7
          try clear hS6
          clear hS5
          refine wpAnyJ_next (i := 8) (by kernel_rfl) rfl ?_
          intro K hK
          go_simp
          go_wp2_with (go_at_call 28; refine Calls.mono (P := Try.prog) HQ.out ?_; intro e w9 hx; obtain ⟨rfl, hg9, hR9⟩ := hx)
          refine hK.out _ _ (Or.inl (by decide)) ?_
          clear hK K
          have hG9 := GX.fresh hG8 hg9 hq0
          have hne : pf ≠ pq := by omega
          have hb9 := hg9.block pf hps8 (fun e => hne (Option.some.inj e))
          have hd11 := (World.cell?_of_block hb9).trans hd9
          have hd12 := (World.cell?_of_block hb9).trans hd10
          have hps9 := Nat.lt_of_lt_of_le hps8 hg9.size
          have hqs9 := Nat.lt_of_lt_of_le hzs8 hg9.size
          refine wpAnyJ_next (i := 9) (by kernel_rfl) rfl ?_
          intro K hK
          go_simp
          refine hK.out _ _ (Or.inl (by decide)) ?_
          clear hK K
          refine wpAnyJ_done (by kernel_rfl) ?_ _
          clear hg9 hb9 hd9 hd10 hps8 hzs8 hS8 hG8 hq0 hpq0 hne HQ
          revert hd12
          revert hd11
          revert hps9
          revert hqs9
          revert hR9
          revert hG9
          revert p2
          revert p1
          revert pq
          revert w9
          exact L15.out
        · as_aux_lemma =>
            intro K hK
            go_simp
            go_wp2_with (go_at_call 29; refine Calls.mono (P := Try.prog) (HRT.out w5) ?_; intro e w6 hx; obtain ⟨p1, rfl, hg6, -, hrs6, hR6⟩ := hx)
            refine hK.out _ _ (Or.inr (G.trans hS5 hg6)) ?_
            clear hK K
            have hS6 := G.trans hS5 hg6
            clear hg6
            refine wpAnyJ_two (i := 0) (j := 7) (by kernel_rfl) rfl rfl ?_ ?_
            · as_aux_lemma =>
                intro K hK
                go_simp
                refine hK.out _ _ (Or.inr (hS6.alloc _)) ?_
                clear hK K
                have hZ7 := RatZ.new w6 64
                have hS7 := hS6.alloc (.cells #[.bool false, .slice none 0 0, .bool false, .slice none 0 0] 64)
                have hzs7 : w6.heap.size < (w6.alloc (.cells #[.bool false, .slice none 0 0, .bool false, .slice none 0 0] 64)).heap.size := by simp
                obtain ⟨pq, hpq⟩ : ∃ pq, pq = w6.heap.size := ⟨_, rfl⟩
                rw [← hpq] at hZ7 hzs7 ⊢
                have hpq0 : w4.heap.size ≤ pq := by have := hS6.size; omega
                have hR7 := hR6.G hrs6 ((G.refl w6).alloc (.cells #[.bool false, .slice none 0 0, .bool false, .slice none 0 0] 64))
                have hrs7 := G.lt ((G.refl w6).alloc (.cells #[.bool false, .slice none 0 0, .bool false, .slice none 0 0] 64)) hrs6
                clear hpq
                generalize w6.alloc (.cells #[.bool false, .slice none 0 0, .bool false, .slice none 0 0] 64) = w7 at *
                refine wpAnyJ_next (i := 7) (by kernel_rfl) rfl ?_
                intro K hK
                go_simp
                go_wp2_with (go_at_call 30; refine Calls.mono (P := Try.prog) (HPW.out w7) ?_; intro e w8 hx; obtain ⟨p2, rfl, hg8, -, hks8, hP8⟩ := hx)
                refine hK.out _ _ (Or.inr (G.trans hS7 hg8)) ?_
                clear hK K
                have hS8 := G.trans hS7 hg8
                have hZ8 := hZ7.G hzs7 hg8
                have hzs8 := G.lt hg8 hzs7
                have hR8 := hR7.G hrs7 hg8
                have hrs8 := G.lt hg8 hrs7
                clear hg8
                have HQ : Hid _ := quoR_c w8 pq p1 p2 0 0 A0 ya B0 yb KB (by omega) HBD.out.1 HBD.out.2.1 HBD.out.2.2.1 HBD.out.2.2.2.1 HBD.out.2.2.2.2.1 HBD.out.2.2.2.2.2.1 HBD.out.2.2.2.2.2.2 hzs8 hrs8 hks8 hZ8.rat hR8 hP8
                rw [← HND.out.1, ← HND.out.2] at HQ
                have hq0 := Nat.le_trans hG4.size hpq0
                have hG8 := G.trans hG4 hS8
                have hd9 := hS8.cell hps4 hd7
                have hd10 := hS8.cell hps4 hd8
                have hps8 := G.lt hS8 hps4
                clear hR8 hP8 hZ8 hrs8 hks8
                try clear hR7
                try clear hR6
                try clear hR5
                try clear hP7
                try clear hZ7
                try clear hZ6
                try clear hrs7
                try clear hrs6
                try clear hks7
                try clear hzs7
                try clear hzs6
                try clear hS7
                try clear hS6
                clear hS5
                refine wpAnyJ_next (i := 8) (by kernel_rfl) rfl ?_
                intro K hK
                go_simp
                go_wp2_with (go_at_call 28; refine Calls.mono (P := Try.prog) HQ.out ?_; intro e w9 hx; obtain ⟨rfl, hg9, hR9⟩ := hx)
                refine hK.out _ _ (Or.inl (by decide)) ?_
                clear hK K
                have hG9 := GX.fresh hG8 hg9 hq0
                have hne : pf ≠ pq := by omega
                have hb9 := hg9.block pf hps8 (fun e => hne (Option.some.inj e))
                have hd11 := (World.cell?_of_block hb9).trans hd9
                have hd12 := (World.cell?_of_block hb9).trans hd10
                have hps9 := Nat.lt_of_lt_of_le hps8 hg9.size
                have hqs9 := Nat.lt_of_lt_of_le hzs8 hg9.size
                refine wpAnyJ_next (i := 9) (by kernel_rfl) rfl ?_
                intro K hK
                go_simp
                refine hK.out _ _ (Or.inl (by decide)) ?_
                clear hK K
                refine wpAnyJ_done (by kernel_rfl) ?_ _
                clear hg9 hb9 hd9 hd10 hps8 hzs8 hS8 hG8 hq0 hpq0 hne HQ
                revert hd12
                revert hd11
                revert hps9
                revert hqs9
                revert hR9
                revert hG9
                revert p2
                revert p1
                revert pq
                revert w9
                exact L15.out
            · as_aux_lemma =>
                intro K hK
                go_simp
                go_wp2_with (go_at_call 30; refine Calls.mono (P := Try.prog) (HPW.out w6) ?_; intro e w7 hx; obtain ⟨p2, rfl, hg7, -, hks7, hP7⟩ := hx)
                refine hK.out _ _ (Or.inr (G.trans hS6 hg7)) ?_
                clear hK K
                have hS7 := G.trans hS6 hg7
                have hR7 := hR6.G hrs6 hg7
                have hrs7 := G.lt hg7 hrs6
                clear hg7
                refine wpAnyJ_next (i := 0) (by kernel_rfl) rfl ?_
                intro K hK
                go_simp
                refine hK.out _ _ (Or.inr (hS7.alloc _)) ?_
                clear hK K
                have hZ8 := RatZ.new w7 64
                have hS8 := hS7.alloc (.cells #[.bool false, .slice none 0 0, .bool false, .slice none 0 0] 64)
                have hzs8 : w7.heap.size < (w7.alloc (.cells #[.bool false, .slice none 0 0, .bool false, .slice none 0 0] 64)).heap.size := by simp
                obtain ⟨pq, hpq⟩ : ∃ pq, pq = w7.heap.size := ⟨_, rfl⟩
                rw [← hpq] at hZ8 hzs8 ⊢
                have hpq0 : w4.heap.size ≤ pq := by have := hS7.size; omega
                have hR8 := hR7.G hrs7 ((G.refl w7).alloc (.cells #[.bool false, .slice none 0 0, .bool false, .slice none 0 0] 64))
                have hrs8 := G.lt ((G.refl w7).alloc (.cells #[.bool false, .slice none 0 0, .bool false, .slice none 0 0] 64)) hrs7
                have hP8 := hP7.G hks7 ((G.refl w7).alloc (.cells #[.bool false, .slice none 0 0, .bool false, .slice none 0 0] 64))
                have hks8 := G.lt ((G.refl w7).alloc (.cells #[.bool false, .slice none 0 0, .bool false, .slice none 0 0] 64)) hks7
                clear hpq
                generalize w7.alloc (.cells #[.bool false, .slice none 0 0, .bool false, .slice none 0 0] 64) = w8 at *
                have HQ : Hid _ := quoR_c w8 pq p1 p2 0 0 A0 ya B0 yb KB (by omega) HBD.out.1 HBD.out.2.1 HBD.out.2.2.1 HBD.out.2.2.2.1 HBD.out.2.2.2.2.1 HBD.out.2.2.2.2.2.1 HBD.out.2.2.2.2.2.2 hzs8 hrs8 hks8 hZ8.rat hR8 hP8
                rw [← HND.out.1, ← HND.out.2] at HQ
                have hq0 := Nat.le_trans hG4.size hpq0
                have hG8 := G.trans hG4 hS8
                have hd9 := hS8.cell hps4 hd7
                have hd10 := hS8.cell hps4 hd8
                have hps8 := G.lt hS8 hps4
                clear hR8 hP8 hZ8 hrs8 hks8
                try clear hR7
                try clear hR6
                try clear hR5
                try clear hP7
                try clear hZ7
                try clear hZ6
                try clear hrs7
                try clear hrs6
                try clear hks7
                try clear hzs7
                try clear hzs6
                try clear hS7
                try clear hS6
                clear hS5
                refine wpAnyJ_next (i := 8) (by kernel_rfl) rfl ?_
                intro K hK
                go_simp
                go_wp2_with (go_at_call 28; refine Calls.mono (P := Try.prog) HQ.out ?_; intro e w9 hx; obtain ⟨rfl, hg9, hR9⟩ := hx)
                refine hK.out _ _ (Or.inl (by decide)) ?_
                clear hK K
                have hG9 := GX.fresh hG8 hg9 hq0
                have hne : pf ≠ pq := by omega
                have hb9 := hg9.block pf hps8 (fun e => hne (Option.some.inj e))
                have hd11 := (World.cell?_of_block hb9).trans hd9
                have hd12 := (World.cell?_of_block hb9).trans hd10
                have hps9 := Nat.lt_of_lt_of_le hps8 hg9.size
                have hqs9 := Nat.lt_of_lt_of_le hzs8 hg9.size
                refine wpAnyJ_next (i := 9) (by kernel_rfl) rfl ?_
                intro K hK
                go_simp
                refine hK.out _ _ (Or.inl (by decide)) ?_
                clear hK K
                refine wpAnyJ_done (by kernel_rfl) ?_ _
                clear hg9 hb9 hd9 hd10 hps8 hzs8 hS8 hG8 hq0 hpq0 hne HQ
                revert hd12
                revert hd11
                revert hps9
                revert hqs9
                revert hR9
                revert hG9
                revert p2
                revert p1
                revert pq
                revert w9
                exact L15.out
      · skip
        refine Later.mk ?_
        intro w9 pq p1 p2 hG9 hR9 hqs9 hps9 hd11 hd12
        have HNI : Hid _ := nearInt_c w9 pq NN DD (2 * KB) (by omega) HNB.out.1 HNB.out.2.1 HNB.out.2.2 hqs9 hR9
        rw [HSV.out] at HNI
        clear hR9 hqs9 HNB HSV HBD HND HRT HPW HWR hd7 hd8 hG4 hps4
        go_wp2_with fail
        refine Calls.mono (P := Try.prog) HNI.out ?_
        intro e w10 hni
        obtain ⟨pn, rfl, hg10, hpn1, hpn2, hpni⟩ := hni
        have hG10 := G.trans hG9 hg10
        have hd13 := hg10.cell hps9 hd11
        have hd14 := hg10.cell hps9 hd12
        have hps10 := G.lt hg10 hps9
        clear hg10 hG9 hd11 hd12 hps9 hpn1 HNI
        go_wp2_with fail
        have HNS : Hid (pn < w10.heap.size) := hpn2
        have HNI : Hid (IntIs w10 pn 0 (SV : Int)) := hpni
        clear hpn2 hpni
        obtain ⟨kk, hkk⟩ : ∃ kk : Nat, (kk : Int) = PL + bi - 1 := ⟨(PL + bi - 1).toNat, by omega⟩
        have hkb : kk ≤ 2000 := by omega
        have HW1 : Hid (IntKind.i64.wrap (IntKind.i64.wrap (PL + bi) - 1) = (kk : Int)) := by
          show IntKind.i64.wrap (IntKind.i64.wrap (PL + bi) - 1) = (kk : Int)
          rw [IntWalk.i64_in (PL + bi) (by omega), IntWalk.i64_in _ (by omega), hkk]
        have HW2 : Hid (IntKind.u64.wrap (F : Int) = (F : Int)) := IntWalk.u64_in _ (by omega)
        have HKK : Hid (-9223372036854775808 ≤ (kk : Int) ∧ (kk : Int) ≤ 9223372036854775807) := ⟨by omega, by omega⟩
        have HKB : Hid ((kk : Int).natAbs < 2 ^ (32 * 2)) := by show (kk : Int).natAbs < 2 ^ (32 * 2); omega
        have hF23 : 2 ^ F ≤ 2 ^ 23 := pow_le (by omega)
        have hF24 : 2 ^ (F + 1) ≤ 2 ^ 24 := pow_le (by omega)
        have hkF : kk * 2 ^ F ≤ 2000 * 2 ^ 23 := Nat.mul_le_mul hkb hF23
        have hsl := HSL.out
        obtain ⟨ST, hST⟩ : ∃ ST, ST = SV + kk * 2 ^ F := ⟨_, rfl⟩
        have hkFi : (kk : Int) * 2 ^ F = ((kk * 2 ^ F : Nat) : Int) := by rw [FT.ipow]; push_cast; rfl
        have HSTE : Hid ((SV : Int) + (kk : Int) * 2 ^ F = (ST : Int)) := by show (SV : Int) + (kk : Int) * 2 ^ F = (ST : Int); rw [hkFi, hST]; push_cast; rfl
        have HAB : Hid ((SV : Int).natAbs < 2 ^ (32 * 2) ∧ ((kk : Int) * 2 ^ F).natAbs < 2 ^ (32 * 2)) := ⟨by rw [Int.natAbs_natCast]; omega, by rw [hkFi, Int.natAbs_natCast]; omega⟩
        have HST64 : Hid ((ST : Int).natAbs < 2 ^ (32 * 2)) := by show (ST : Int).natAbs < 2 ^ (32 * 2); rw [Int.natAbs_natCast]; omega
        have HST64u : Hid ((ST : Int).natAbs < 2 ^ 64) := by show (ST : Int).natAbs < 2 ^ 64; rw [Int.natAbs_natCast]; omega
        have HI64 : Hid (I < 2 ^ 64) := by show I < 2 ^ 64; have := HIB.out; omega
        have HI64i : Hid ((I : Int).natAbs < 2 ^ (32 * 2)) := by show (I : Int).natAbs < 2 ^ (32 * 2); rw [Int.natAbs_natCast]; have := HIB.out; omega
        have HSTD : Hid (ST = stepsV E F mag e0) := by
          show ST = stepsV E F mag e0
          have h1 : placeV E mag e0 = PL := by
            unfold placeV
            rw [← HMG.out.2.2.2.2, HPL.out, HBI.out]
            congr 1
            omega
          unfold stepsV
          rw [h1, hST, HSVE.out, Nat.add_comm, show (PL - (2 - 2 ^ (E - 1))).toNat = kk from by have := HBI.out; omega]
        clear hkb hF23 hF24 hkF hsl hST hkFi hkk HSVE HSL HPL
        apply share
        · intro L17
          refine region_J 12 (G w10) (by kernel_rfl) (by first | exact (G.refl _).drew | exact G.drew (by assumption)) ?_
          intro hSh
          refine wpAnyJ_take (i := 1) (v := ?_) rfl (by kernel_rfl) (by kernel_rfl) (by kernel_rfl) (by kernel_rfl) (by kernel_rfl) (by kernel_rfl) (by kernel_rfl) (fun _ _ _ h => h) (Or.inl ⟨by rfl, ?_⟩) (by assumption) ?_
          rotate_left
          · intro wq hwq
            have hq37 := G.cell (p := ⟨pf, 0, none⟩) (v := .int .i64 E) hwq (by first | assumption | (simp; done) | (simp; omega) | omega) (by assumption)
            have hq38 := G.cell (p := ⟨pf, 1, none⟩) (v := .int .i64 F) hwq (by first | assumption | (simp; done) | (simp; omega) | omega) (by assumption)
            first | (go_simp; done) | (go_simp; with_reducible rfl)
          try simp only [Act.put, List.setIfInBounds_toArray, List.set_cons_zero, List.set_cons_succ]
          refine wpAnyJ_take (i := 3) (v := ?_) rfl (by kernel_rfl) (by kernel_rfl) (by kernel_rfl) (by kernel_rfl) (by kernel_rfl) (by kernel_rfl) (by kernel_rfl) (fun _ _ _ h => h) (Or.inl ⟨by rfl, ?_⟩) (by assumption) ?_
          rotate_left
          · intro wq hwq
            have hq39 := G.cell (p := ⟨pf, 0, none⟩) (v := .int .i64 E) hwq (by first | assumption | (simp; done) | (simp; omega) | omega) (by assumption)
            have hq40 := G.cell (p := ⟨pf, 1, none⟩) (v := .int .i64 F) hwq (by first | assumption | (simp; done) | (simp; omega) | omega) (by assumption)
            first | (go_simp; done) | (go_simp; with_reducible rfl)
          try simp only [Act.put, List.setIfInBounds_toArray, List.set_cons_zero, List.set_cons_succ]
          refine wpAnyJ_take (i := 4) (v := ?_) rfl (by kernel_rfl) (by kernel_rfl) (by kernel_rfl) (by kernel_rfl) (by kernel_rfl) (by kernel_rfl) (by kernel_rfl) (fun _ _ _ h => h) (Or.inl ⟨by rfl, ?_⟩) (by assumption) ?_
          rotate_left
          · intro wq hwq
            have hq41 := G.cell (p := ⟨pf, 0, none⟩) (v := .int .i64 E) hwq (by first | assumption | (simp; done) | (simp; omega) | omega) (by assumption)
            have hq42 := G.cell (p := ⟨pf, 1, none⟩) (v := .int .i64 F) hwq (by first | assumption | (simp; done) | (simp; omega) | omega) (by assumption)
            first | (go_simp; done) | (go_simp; with_reducible rfl)
          try simp only [Act.put, List.setIfInBounds_toArray, List.set_cons_zero, List.set_cons_succ]
          refine wpAnyJ_take (i := 5) (v := ?_) rfl (by kernel_rfl) (by kernel_rfl) (by kernel_rfl) (by kernel_rfl) (by kernel_rfl) (by kernel_rfl) (by kernel_rfl) (fun _ _ _ h => h) (Or.inl ⟨by rfl, ?_⟩) (by assumption) ?_
          rotate_left
          · intro wq hwq
            have hq43 := G.cell (p := ⟨pf, 0, none⟩) (v := .int .i64 E) hwq (by first | assumption | (simp; done) | (simp; omega) | omega) (by assumption)
            have hq44 := G.cell (p := ⟨pf, 1, none⟩) (v := .int .i64 F) hwq (by first | assumption | (simp; done) | (simp; omega) | omega) (by assumption)
            first | (go_simp; done) | (go_simp; with_reducible rfl)
          try simp only [Act.put, List.setIfInBounds_toArray, List.set_cons_zero, List.set_cons_succ]
          refine wpAnyJ_take (i := 6) (v := ?_) rfl (by kernel_rfl) (by kernel_rfl) (by kernel_rfl) (by kernel_rfl) (by kernel_rfl) (by kernel_rfl) (by kernel_rfl) (fun _ _ _ h => h) (Or.inl ⟨by rfl, ?_⟩) (by assumption) ?_
          rotate_left
          · intro wq hwq
            have hq45 := G.cell (p := ⟨pf, 0, none⟩) (v := .int .i64 E) hwq (by first | assumption | (simp; done) | (simp; omega) | omega) (by assumption)
            have hq46 := G.cell (p := ⟨pf, 1, none⟩) (v := .int .i64 F) hwq (by first | assumption | (simp; done) | (simp; omega) | omega) (by assumption)
            first | (go_simp; done) | (go_simp; with_reducible rfl)
          try simp only [Act.put, List.setIfInBounds_toArray, List.set_cons_zero, List.set_cons_succ]
          refine wpAnyJ_take (i := 8) (v := ?_) rfl (by kernel_rfl) (by kernel_rfl) (by kernel_rfl) (by kernel_rfl) (by kernel_rfl) (by kernel_rfl) (by kernel_rfl) (fun _ _ _ h => h) (Or.inl ⟨by rfl, ?_⟩) (by assumption) ?_
          rotate_left
          · intro wq hwq
            have hq47 := G.cell (p := ⟨pf, 0, none⟩) (v := .int .i64 E) hwq (by first | assumption | (simp; done) | (simp; omega) | omega) (by assumption)
            have hq48 := G.cell (p := ⟨pf, 1, none⟩) (v := .int .i64 F) hwq (by first | assumption | (simp; done) | (simp; omega) | omega) (by assumption)
            first | (go_simp; done) | (go_simp; with_reducible rfl)
          try simp only [Act.put, List.setIfInBounds_toArray, List.set_cons_zero, List.set_cons_succ]
          refine wpAnyJ_take (i := 9) (v := ?_) rfl (by kernel_rfl) (by kernel_rfl) (by kernel_rfl) (by kernel_rfl) (by kernel_rfl) (by kernel_rfl) (by kernel_rfl) (fun _ _ _ h => h) (Or.inl ⟨by rfl, ?_⟩) (by assumption) ?_
          rotate_left
          · intro wq hwq
            have hq49 := G.cell (p := ⟨pf, 0, none⟩) (v := .int .i64 E) hwq (by first | assumption | (simp; done) | (simp; omega) | omega) (by assumption)
            have hq50 := G.cell (p := ⟨pf, 1, none⟩) (v := .int .i64 F) hwq (by first | assumption | (simp; done) | (simp; omega) | omega) (by assumption)
            first | (go_simp; done) | (go_simp; with_reducible rfl)
          try simp only [Act.put, List.setIfInBounds_toArray, List.set_cons_zero, List.set_cons_succ]
          refine wpAnyJ_take (i := 10) (v := ?_) rfl (by kernel_rfl) (by kernel_rfl) (by kernel_rfl) (by kernel_rfl) (by kernel_rfl) (by kernel_rfl) (by kernel_rfl) (fun _ _ _ h => h) (Or.inl ⟨by rfl, ?_⟩) (by assumption) ?_
          rotate_left
          · intro wq hwq
            have hq51 := G.cell (p := ⟨pf, 0, none⟩) (v := .int .i64 E) hwq (by first | assumption | (simp; done) | (simp; omega) | omega) (by assumption)
            have hq52 := G.cell (p := ⟨pf, 1, none⟩) (v := .int .i64 F) hwq (by first | assumption | (simp; done) | (simp; omega) | omega) (by assumption)
            first | (go_simp; done) | (go_simp; with_reducible rfl)
          try simp only [Act.put, List.setIfInBounds_toArray, List.set_cons_zero, List.set_cons_succ]
          show wpAnyJ _ _ _ _ _ _ _ _ _ w10.drew
          rw [HW1.out, HW2.out]
          have hS11 := hSh
          generalize w10.drew = w11 at *
          clear hSh
          refine wpAnyJ_three (i := 0) (j := 2) (l := 7) (by kernel_rfl) rfl rfl rfl ?_ ?_ ?_
          · skip
            intro K hK
            go_simp
            refine hK.out _ _ (Or.inr (hS11.alloc _)) ?_
            clear hK K
            have hn := NI.new hS11 62
            have hal := (G.refl w11).alloc (.cells #[.bool false, .slice none 0 0] 62)
            have hS12 := G.trans hS11 hal
            generalize w11.heap.size = pb at *
            generalize w11.alloc (.cells #[.bool false, .slice none 0 0] 62) = w12 at *
            have HB12 : Hid (NI w10 w12 pb 0) := hn
            clear hn hal hS11
            refine wpAnyJ_two (i := 2) (j := 7) (by kernel_rfl) rfl rfl ?_ ?_
            · skip
              intro K hK
              go_simp
              refine hK.out _ _ (Or.inr (hS12.alloc _)) ?_
              clear hK K
              have hn := NI.new hS12 62
              have hal := (G.refl w12).alloc (.cells #[.bool false, .slice none 0 0] 62)
              have hS13 := G.trans hS12 hal
              have HBt := HB12.out.G hal
              have hne : w12.heap.size ≠ pb := by have := HB12.out.2.1; omega
              generalize w12.heap.size = pl at *
              generalize w12.alloc (.cells #[.bool false, .slice none 0 0] 62) = w13 at *
              have HL13 : Hid (NI w10 w13 pl 0) := hn
              have HB13 : Hid (NI w10 w13 pb 0) := HBt
              have HNE : Hid (pb ≠ pl) := hne.symm
              clear hn hal hS12 HB12 HBt hne
              refine wpAnyJ_next (i := 7) (by kernel_rfl) rfl ?_
              intro K hK
              go_simp
              go_wp2_with (go_at_call 34; refine Calls.mono (P := Try.prog) (newI_c w13 (kk : Int) HKK.out) ?_; intro e w14 hx; obtain ⟨p7, rfl, hg, h71, h72, h73⟩ := hx)
              refine hK.out _ _ (Or.inr (G.trans hS13 hg)) ?_
              clear hK K
              have hS14 := G.trans hS13 hg
              have hsz := hS13.size
              have HW14 : Hid (NI w10 w14 p7 (kk : Int)) := ⟨by omega, h72, h73⟩
              have HB14 : Hid (NI w10 w14 pb 0) := HB13.out.G hg
              have HL14 : Hid (NI w10 w14 pl 0) := HL13.out.G hg
              clear hg h71 h72 h73 hsz hS13 HB13 HL13
              refine wpAnyJ_next (i := 11) (by kernel_rfl) rfl ?_
              intro K hK
              go_simp
              have HLS : Hid _ := lshI_c w14 pl 0 p7 0 F 0 (kk : Int) 2 (by omega) (by omega) HKB.out HL14.out.2.1 HW14.out.2.1 HL14.out.2.2 HW14.out.2.2
              go_wp2_with (go_at_call 33; refine Calls.mono (P := Try.prog) HLS.out ?_; intro e w15 hx; obtain ⟨rfl, hS15, hl, -, hkp⟩ := SetTo.step hS14 HL14.out hx)
              have HL15 : Hid (NI w10 w15 pl ((kk : Int) * 2 ^ F)) := hl
              have HB15 : Hid (NI w10 w15 pb 0) := hkp pb 0 HNE.out HB14.out
              refine hK.out _ _ (Or.inr hS15) ?_
              clear hK K hx hl hkp HLS hS14 HL14 HW14 HB14
              have HAD : Hid _ := addI_c w15 pb 0 pn 0 pl 0 0 (SV : Int) ((kk : Int) * 2 ^ F) 2 (by omega) HAB.out.1 HAB.out.2 HB15.out.2.1 (G.lt hS15 HNS.out) HL15.out.2.1 HB15.out.2.2 (IntIs.G HNI.out HNS.out hS15) HL15.out.2.2
              refine wpAnyJ_next (i := 12) (by kernel_rfl) rfl ?_
              intro K hK
              go_simp
              go_wp2_with (go_at_call 32; refine Calls.mono (P := Try.prog) HAD.out ?_; intro e w16 hx; obtain ⟨rfl, hS16, hb16, -, -⟩ := SetTo.step hS15 HB15.out hx)
              refine hK.out _ _ (Or.inl (by decide)) ?_
              rw [HSTE.out] at hb16
              have HB16 : Hid (NI w10 w16 pb (ST : Int)) := hb16
              have hG16 := G.trans hG10 hS16
              clear hK K hx hb16 HAD HB15 HL15 hS15 hS16 HNE
              refine wpAnyJ_next (i := 13) (by kernel_rfl) rfl ?_
              intro K hK
              go_simp
              refine hK.out _ _ (Or.inl (by decide)) ?_
              clear hK K
              refine wpAnyJ_done (by kernel_rfl) ?_ _
              revert HB16
              revert hG16
              revert p7
              revert pl
              revert pb
              revert w16
              exact L17.out
            · as_aux_lemma =>
                intro K hK
                go_simp
                go_wp2_with (go_at_call 34; refine Calls.mono (P := Try.prog) (newI_c w12 (kk : Int) HKK.out) ?_; intro e w13 hx; obtain ⟨p7, rfl, hg, h71, h72, h73⟩ := hx)
                refine hK.out _ _ (Or.inr (G.trans hS12 hg)) ?_
                clear hK K
                have hS13 := G.trans hS12 hg
                have hsz := hS12.size
                have HW13 : Hid (NI w10 w13 p7 (kk : Int)) := ⟨by omega, h72, h73⟩
                have HB13 : Hid (NI w10 w13 pb 0) := HB12.out.G hg
                clear hg h71 h72 h73 hsz hS12 HB12
                refine wpAnyJ_next (i := 2) (by kernel_rfl) rfl ?_
                intro K hK
                go_simp
                refine hK.out _ _ (Or.inr (hS13.alloc _)) ?_
                clear hK K
                have hn := NI.new hS13 62
                have hal := (G.refl w13).alloc (.cells #[.bool false, .slice none 0 0] 62)
                have hS14 := G.trans hS13 hal
                have HBt := HB13.out.G hal
                have HWt := HW13.out.G hal
                have hne : w13.heap.size ≠ pb := by have := HB13.out.2.1; omega
                generalize w13.heap.size = pl at *
                generalize w13.alloc (.cells #[.bool false, .slice none 0 0] 62) = w14 at *
                have HL14 : Hid (NI w10 w14 pl 0) := hn
                have HB14 : Hid (NI w10 w14 pb 0) := HBt
                have HW14 : Hid (NI w10 w14 p7 (kk : Int)) := HWt
                have HNE : Hid (pb ≠ pl) := hne.symm
                clear hn hal hS13 HB13 HBt HW13 HWt hne
                refine wpAnyJ_next (i := 11) (by kernel_rfl) rfl ?_
                intro K hK
                go_simp
                have HLS : Hid _ := lshI_c w14 pl 0 p7 0 F 0 (kk : Int) 2 (by omega) (by omega) HKB.out HL14.out.2.1 HW14.out.2.1 HL14.out.2.2 HW14.out.2.2
                go_wp2_with (go_at_call 33; refine Calls.mono (P := Try.prog) HLS.out ?_; intro e w15 hx; obtain ⟨rfl, hS15, hl, -, hkp⟩ := SetTo.step hS14 HL14.out hx)
                have HL15 : Hid (NI w10 w15 pl ((kk : Int) * 2 ^ F)) := hl
                have HB15 : Hid (NI w10 w15 pb 0) := hkp pb 0 HNE.out HB14.out
                refine hK.out _ _ (Or.inr hS15) ?_
                clear hK K hx hl hkp HLS hS14 HL14 HW14 HB14
                have HAD : Hid _ := addI_c w15 pb 0 pn 0 pl 0 0 (SV : Int) ((kk : Int) * 2 ^ F) 2 (by omega) HAB.out.1 HAB.out.2 HB15.out.2.1 (G.lt hS15 HNS.out) HL15.out.2.1 HB15.out.2.2 (IntIs.G HNI.out HNS.out hS15) HL15.out.2.2
                refine wpAnyJ_next (i := 12) (by kernel_rfl) rfl ?_
                intro K hK
                go_simp
                go_wp2_with (go_at_call 32; refine Calls.mono (P := Try.prog) HAD.out ?_; intro e w16 hx; obtain ⟨rfl, hS16, hb16, -, -⟩ := SetTo.step hS15 HB15.out hx)
                refine hK.out _ _ (Or.inl (by decide)) ?_
                rw [HSTE.out] at hb16
                have HB16 : Hid (NI w10 w16 pb (ST : Int)) := hb16
                have hG16 := G.trans hG10 hS16
                clear hK K hx hb16 HAD HB15 HL15 hS15 hS16 HNE
                refine wpAnyJ_next (i := 13) (by kernel_rfl) rfl ?_
                intro K hK
                go_simp
                refine hK.out _ _ (Or.inl (by decide)) ?_
                clear hK K
                refine wpAnyJ_done (by kernel_rfl) ?_ _
                revert HB16
                revert hG16
                revert p7
                revert pl
                revert pb
                revert w16
                exact L17.out
          · as_aux_lemma =>
              intro K hK
              go_simp
              refine hK.out _ _ (Or.inr (hS11.alloc _)) ?_
              clear hK K
              have hn := NI.new hS11 62
              have hal := (G.refl w11).alloc (.cells #[.bool false, .slice none 0 0] 62)
              have hS12 := G.trans hS11 hal
              generalize w11.heap.size = pl at *
              generalize w11.alloc (.cells #[.bool false, .slice none 0 0] 62) = w12 at *
              have HL12 : Hid (NI w10 w12 pl 0) := hn
              clear hn hal hS11
              refine wpAnyJ_two (i := 0) (j := 7) (by kernel_rfl) rfl rfl ?_ ?_
              · as_aux_lemma =>
                  intro K hK
                  go_simp
                  refine hK.out _ _ (Or.inr (hS12.alloc _)) ?_
                  clear hK K
                  have hn := NI.new hS12 62
                  have hal := (G.refl w12).alloc (.cells #[.bool false, .slice none 0 0] 62)
                  have hS13 := G.trans hS12 hal
                  have HLt := HL12.out.G hal
                  have hne : w12.heap.size ≠ pl := by have := HL12.out.2.1; omega
                  generalize w12.heap.size = pb at *
                  generalize w12.alloc (.cells #[.bool false, .slice none 0 0] 62) = w13 at *
                  have HB13 : Hid (NI w10 w13 pb 0) := hn
                  have HL13 : Hid (NI w10 w13 pl 0) := HLt
                  have HNE : Hid (pb ≠ pl) := hne
                  clear hn hal hS12 HL12 HLt hne
                  refine wpAnyJ_next (i := 7) (by kernel_rfl) rfl ?_
                  intro K hK
                  go_simp
                  go_wp2_with (go_at_call 34; refine Calls.mono (P := Try.prog) (newI_c w13 (kk : Int) HKK.out) ?_; intro e w14 hx; obtain ⟨p7, rfl, hg, h71, h72, h73⟩ := hx)
                  refine hK.out _ _ (Or.inr (G.trans hS13 hg)) ?_
                  clear hK K
                  have hS14 := G.trans hS13 hg
                  have hsz := hS13.size
                  have HW14 : Hid (NI w10 w14 p7 (kk : Int)) := ⟨by omega, h72, h73⟩
                  have HB14 : Hid (NI w10 w14 pb 0) := HB13.out.G hg
                  have HL14 : Hid (NI w10 w14 pl 0) := HL13.out.G hg
                  clear hg h71 h72 h73 hsz hS13 HB13 HL13
                  refine wpAnyJ_next (i := 11) (by kernel_rfl) rfl ?_
                  intro K hK
                  go_simp
                  have HLS : Hid _ := lshI_c w14 pl 0 p7 0 F 0 (kk : Int) 2 (by omega) (by omega) HKB.out HL14.out.2.1 HW14.out.2.1 HL14.out.2.2 HW14.out.2.2
                  go_wp2_with (go_at_call 33; refine Calls.mono (P := Try.prog) HLS.out ?_; intro e w15 hx; obtain ⟨rfl, hS15, hl, -, hkp⟩ := SetTo.step hS14 HL14.out hx)
                  have HL15 : Hid (NI w10 w15 pl ((kk : Int) * 2 ^ F)) := hl
                  have HB15 : Hid (NI w10 w15 pb 0) := hkp pb 0 HNE.out HB14.out
                  refine hK.out _ _ (Or.inr hS15) ?_
                  clear hK K hx hl hkp HLS hS14 HL14 HW14 HB14
                  have HAD : Hid _ := addI_c w15 pb 0 pn 0 pl 0 0 (SV : Int) ((kk : Int) * 2 ^ F) 2 (by omega) HAB.out.1 HAB.out.2 HB15.out.2.1 (G.lt hS15 HNS.out) HL15.out.2.1 HB15.out.2.2 (IntIs.G HNI.out HNS.out hS15) HL15.out.2.2
                  refine wpAnyJ_next (i := 12) (by kernel_rfl) rfl ?_
                  intro K hK
                  go_simp
                  go_wp2_with (go_at_call 32; refine Calls.mono (P := Try.prog) HAD.out ?_; intro e w16 hx; obtain ⟨rfl, hS16, hb16, -, -⟩ := SetTo.step hS15 HB15.out hx)
                  refine hK.out _ _ (Or.inl (by decide)) ?_
                  rw [HSTE.out] at hb16
                  have HB16 : Hid (NI w10 w16 pb (ST : Int)) := hb16
                  have hG16 := G.trans hG10 hS16
                  clear hK K hx hb16 HAD HB15 HL15 hS15 hS16 HNE
                  refine wpAnyJ_next (i := 13) (by kernel_rfl) rfl ?_
                  intro K hK
                  go_simp
                  refine hK.out _ _ (Or.inl (by decide)) ?_
                  clear hK K
                  refine wpAnyJ_done (by kernel_rfl) ?_ _
                  revert HB16
                  revert hG16
                  revert p7
                  revert pl
                  revert pb
                  revert w16
                  exact L17.out
              · as_aux_lemma =>
                  intro K hK
                  go_simp
                  go_wp2_with (go_at_call 34; refine Calls.mono (P := Try.prog) (newI_c w12 (kk : Int) HKK.out) ?_; intro e w13 hx; obtain ⟨p7, rfl, hg, h71, h72, h73⟩ := hx)
                  refine hK.out _ _ (Or.inr (G.trans hS12 hg)) ?_
                  clear hK K
                  have hS13 := G.trans hS12 hg
                  have hsz := hS12.size
                  have HW13 : Hid (NI w10 w13 p7 (kk : Int)) := ⟨by omega, h72, h73⟩
                  have HL13 : Hid (NI w10 w13 pl 0) := HL12.out.G hg
                  clear hg h71 h72 h73 hsz hS12 HL12
                  refine wpAnyJ_two (i := 0) (j := 11) (by kernel_rfl) rfl rfl ?_ ?_
                  · as_aux_lemma =>
                      intro K hK
                      go_simp
                      refine hK.out _ _ (Or.inr (hS13.alloc _)) ?_
                      clear hK K
                      have hn := NI.new hS13 62
                      have hal := (G.refl w13).alloc (.cells #[.bool false, .slice none 0 0] 62)
                      have hS14 := G.trans hS13 hal
                      have HLt := HL13.out.G hal
                      have HWt := HW13.out.G hal
                      have hne : w13.heap.size ≠ pl := by have := HL13.out.2.1; omega
                      generalize w13.heap.size = pb at *
                      generalize w13.alloc (.cells #[.bool false, .slice none 0 0] 62) = w14 at *
                      have HB14 : Hid (NI w10 w14 pb 0) := hn
                      have HL14 : Hid (NI w10 w14 pl 0) := HLt
                      have HW14 : Hid (NI w10 w14 p7 (kk : Int)) := HWt
                      have HNE : Hid (pb ≠ pl) := hne
                      clear hn hal hS13 HL13 HLt HW13 HWt hne
                      refine wpAnyJ_next (i := 11) (by kernel_rfl) rfl ?_
                      intro K hK
                      go_simp
                      have HLS : Hid _ := lshI_c w14 pl 0 p7 0 F 0 (kk : Int) 2 (by omega) (by omega) HKB.out HL14.out.2.1 HW14.out.2.1 HL14.out.2.2 HW14.out.2.2
                      go_wp2_with (go_at_call 33; refine Calls.mono (P := Try.prog) HLS.out ?_; intro e w15 hx; obtain ⟨rfl, hS15, hl, -, hkp⟩ := SetTo.step hS14 HL14.out hx)
                      have HL15 : Hid (NI w10 w15 pl ((kk : Int) * 2 ^ F)) := hl
                      have HB15 : Hid (NI w10 w15 pb 0) := hkp pb 0 HNE.out HB14.out
                      refine hK.out _ _ (Or.inr hS15) ?_
                      clear hK K hx hl hkp HLS hS14 HL14 HW14 HB14
                      have HAD : Hid _ := addI_c w15 pb 0 pn 0 pl 0 0 (SV : Int) ((kk : Int) * 2 ^ F) 2 (by omega) HAB.out.1 HAB.out.2 HB15.out.2.1 (G.lt hS15 HNS.out) HL15.out.2.1 HB15.out.2.2 (IntIs.G HNI.out HNS.out hS15) HL15.out.2.2
                      refine wpAnyJ_next (i := 12) (by kernel_rfl) rfl ?_
                      intro K hK
                      go_simp
                      go_wp2_with (go_at_call 32; refine Calls.mono (P := Try.prog) HAD.out ?_; intro e w16 hx; obtain ⟨rfl, hS16, hb16, -, -⟩ := SetTo.step hS15 HB15.out hx)
                      refine hK.out _ _ (Or.inl (by decide)) ?_
                      rw [HSTE.out] at hb16
                      have HB16 : Hid (NI w10 w16 pb (ST : Int)) := hb16
                      have hG16 := G.trans hG10 hS16
                      clear hK K hx hb16 HAD HB15 HL15 hS15 hS16 HNE
                      refine wpAnyJ_next (i := 13) (by kernel_rfl) rfl ?_
                      intro K hK
                      go_simp
                      refine hK.out _ _ (Or.inl (by decide)) ?_
                      clear hK K
                      refine wpAnyJ_done (by kernel_rfl) ?_ _
                      revert HB16
                      revert hG16
                      revert p7
                      revert pl
                      revert pb
                      revert w16
                      exact L17.out
                  · as_aux_lemma =>
                      intro K hK
                      go_simp
                      have HLS : Hid _ := lshI_c w13 pl 0 p7 0 F 0 (kk : Int) 2 (by omega) (by omega) HKB.out HL13.out.2.1 HW13.out.2.1 HL13.out.2.2 HW13.out.2.2
                      go_wp2_with (go_at_call 33; refine Calls.mono (P := Try.prog) HLS.out ?_; intro e w14 hx; obtain ⟨rfl, hS14, hl, -, hkp⟩ := SetTo.step hS13 HL13.out hx)
                      have HL14 : Hid (NI w10 w14 pl ((kk : Int) * 2 ^ F)) := hl
                      refine hK.out _ _ (Or.inr hS14) ?_
                      clear hK K hx hl hkp HLS hS13 HL13 HW13
                      refine wpAnyJ_next (i := 0) (by kernel_rfl) rfl ?_
                      intro K hK
                      go_simp
                      refine hK.out _ _ (Or.inr (hS14.alloc _)) ?_
                      clear hK K
                      have hn := NI.new hS14 62
                      have hal := (G.refl w14).alloc (.cells #[.bool false, .slice none 0 0] 62)
                      have hS15 := G.trans hS14 hal
                      have HLt := HL14.out.G hal
                      have hne : w14.heap.size ≠ pl := by have := HL14.out.2.1; omega
                      generalize w14.heap.size = pb at *
                      generalize w14.alloc (.cells #[.bool false, .slice none 0 0] 62) = w15 at *
                      have HB15 : Hid (NI w10 w15 pb 0) := hn
                      have HL15 : Hid (NI w10 w15 pl ((kk : Int) * 2 ^ F)) := HLt
                      have HNE : Hid (pb ≠ pl) := hne
                      clear hn hal hS14 HL14 HLt hne
                      have HAD : Hid _ := addI_c w15 pb 0 pn 0 pl 0 0 (SV : Int) ((kk : Int) * 2 ^ F) 2 (by omega) HAB.out.1 HAB.out.2 HB15.out.2.1 (G.lt hS15 HNS.out) HL15.out.2.1 HB15.out.2.2 (IntIs.G HNI.out HNS.out hS15) HL15.out.2.2
                      refine wpAnyJ_next (i := 12) (by kernel_rfl) rfl ?_
                      intro K hK
                      go_simp
                      go_wp2_with (go_at_call 32; refine Calls.mono (P := Try.prog) HAD.out ?_; intro e w16 hx; obtain ⟨rfl, hS16, hb16, -, -⟩ := SetTo.step hS15 HB15.out hx)
                      refine hK.out _ _ (Or.inl (by decide)) ?_
                      rw [HSTE.out] at hb16
                      have HB16 : Hid (NI w10 w16 pb (ST : Int)) := hb16
                      have hG16 := G.trans hG10 hS16
                      clear hK K hx hb16 HAD HB15 HL15 hS15 hS16 HNE
                      refine wpAnyJ_next (i := 13) (by kernel_rfl) rfl ?_
                      intro K hK
                      go_simp
                      refine hK.out _ _ (Or.inl (by decide)) ?_
                      clear hK K
                      refine wpAnyJ_done (by kernel_rfl) ?_ _
                      revert HB16
                      revert hG16
                      revert p7
                      revert pl
                      revert pb
                      revert w16
                      exact L17.out
          · as_aux_lemma =>
              intro K hK
              go_simp
              go_wp2_with (go_at_call 34; refine Calls.mono (P := Try.prog) (newI_c w11 (kk : Int) HKK.out) ?_; intro e w12 hx; obtain ⟨p7, rfl, hg, h71, h72, h73⟩ := hx)
              refine hK.out _ _ (Or.inr (G.trans hS11 hg)) ?_
              clear hK K
              have hS12 := G.trans hS11 hg
              have hsz := hS11.size
              have HW12 : Hid (NI w10 w12 p7 (kk : Int)) := ⟨by omega, h72, h73⟩
              clear hg h71 h72 h73 hsz hS11
              refine wpAnyJ_two (i := 0) (j := 2) (by kernel_rfl) rfl rfl ?_ ?_
              · as_aux_lemma =>
                  intro K hK
                  go_simp
                  refine hK.out _ _ (Or.inr (hS12.alloc _)) ?_
                  clear hK K
                  have hn := NI.new hS12 62
                  have hal := (G.refl w12).alloc (.cells #[.bool false, .slice none 0 0] 62)
                  have hS13 := G.trans hS12 hal
                  have HWt := HW12.out.G hal
                  generalize w12.heap.size = pb at *
                  generalize w12.alloc (.cells #[.bool false, .slice none 0 0] 62) = w13 at *
                  have HB13 : Hid (NI w10 w13 pb 0) := hn
                  have HW13 : Hid (NI w10 w13 p7 (kk : Int)) := HWt
                  clear hn hal hS12 HW12 HWt
                  refine wpAnyJ_next (i := 2) (by kernel_rfl) rfl ?_
                  intro K hK
                  go_simp
                  refine hK.out _ _ (Or.inr (hS13.alloc _)) ?_
                  clear hK K
                  have hn := NI.new hS13 62
                  have hal := (G.refl w13).alloc (.cells #[.bool false, .slice none 0 0] 62)
                  have hS14 := G.trans hS13 hal
                  have HBt := HB13.out.G hal
                  have HWt := HW13.out.G hal
                  have hne : w13.heap.size ≠ pb := by have := HB13.out.2.1; omega
                  generalize w13.heap.size = pl at *
                  generalize w13.alloc (.cells #[.bool false, .slice none 0 0] 62) = w14 at *
                  have HL14 : Hid (NI w10 w14 pl 0) := hn
                  have HB14 : Hid (NI w10 w14 pb 0) := HBt
                  have HW14 : Hid (NI w10 w14 p7 (kk : Int)) := HWt
                  have HNE : Hid (pb ≠ pl) := hne.symm
                  clear hn hal hS13 HB13 HBt HW13 HWt hne
                  refine wpAnyJ_next (i := 11) (by kernel_rfl) rfl ?_
                  intro K hK
                  go_simp
                  have HLS : Hid _ := lshI_c w14 pl 0 p7 0 F 0 (kk : Int) 2 (by omega) (by omega) HKB.out HL14.out.2.1 HW14.out.2.1 HL14.out.2.2 HW14.out.2.2
                  go_wp2_with (go_at_call 33; refine Calls.mono (P := Try.prog) HLS.out ?_; intro e w15 hx; obtain ⟨rfl, hS15, hl, -, hkp⟩ := SetTo.step hS14 HL14.out hx)
                  have HL15 : Hid (NI w10 w15 pl ((kk : Int) * 2 ^ F)) := hl
                  have HB15 : Hid (NI w10 w15 pb 0) := hkp pb 0 HNE.out HB14.out
                  refine hK.out _ _ (Or.inr hS15) ?_
                  clear hK K hx hl hkp HLS hS14 HL14 HW14 HB14
                  have HAD : Hid _ := addI_c w15 pb 0 pn 0 pl 0 0 (SV : Int) ((kk : Int) * 2 ^ F) 2 (by omega) HAB.out.1 HAB.out.2 HB15.out.2.1 (G.lt hS15 HNS.out) HL15.out.2.1 HB15.out.2.2 (IntIs.G HNI.out HNS.out hS15) HL15.out.2.2
                  refine wpAnyJ_next (i := 12) (by kernel_rfl) rfl ?_
                  intro K hK
                  go_simp
                  go_wp2_with (go_at_call 32; refine Calls.mono (P := Try.prog) HAD.out ?_; intro e w16 hx; obtain ⟨rfl, hS16, hb16, -, -⟩ := SetTo.step hS15 HB15.out hx)
                  refine hK.out _ _ (Or.inl (by decide)) ?_
                  rw [HSTE.out] at hb16
                  have HB16 : Hid (NI w10 w16 pb (ST : Int)) := hb16
                  have hG16 := G.trans hG10 hS16
                  clear hK K hx hb16 HAD HB15 HL15 hS15 hS16 HNE
                  refine wpAnyJ_next (i := 13) (by kernel_rfl) rfl ?_
                  intro K hK
                  go_simp
                  refine hK.out _ _ (Or.inl (by decide)) ?_
                  clear hK K
                  refine wpAnyJ_done (by kernel_rfl) ?_ _
                  revert HB16
                  revert hG16
                  revert p7
                  revert pl
                  revert pb
                  revert w16
                  exact L17.out
              · as_aux_lemma =>
                  intro K hK
                  go_simp
                  refine hK.out _ _ (Or.inr (hS12.alloc _)) ?_
                  clear hK K
                  have hn := NI.new hS12 62
                  have hal := (G.refl w12).alloc (.cells #[.bool false, .slice none 0 0] 62)
                  have hS13 := G.trans hS12 hal
                  have HWt := HW12.out.G hal
                  generalize w12.heap.size = pl at *
                  generalize w12.alloc (.cells #[.bool false, .slice none 0 0] 62) = w13 at *
                  have HL13 : Hid (NI w10 w13 pl 0) := hn
                  have HW13 : Hid (NI w10 w13 p7 (kk : Int)) := HWt
                  clear hn hal hS12 HW12 HWt
                  refine wpAnyJ_two (i := 0) (j := 11) (by kernel_rfl) rfl rfl ?_ ?_
                  · as_aux_lemma =>
                      intro K hK
                      go_simp
                      refine hK.out _ _ (Or.inr (hS13.alloc _)) ?_
                      clear hK K
                      have hn := NI.new hS13 62
                      have hal := (G.refl w13).alloc (.cells #[.bool false, .slice none 0 0] 62)
                      have hS14 := G.trans hS13 hal
                      have HLt := HL13.out.G hal
                      have HWt := HW13.out.G hal
                      have hne : w13.heap.size ≠ pl := by have := HL13.out.2.1; omega
                      generalize w13.heap.size = pb at *
                      generalize w13.alloc (.cells #[.bool false, .slice none 0 0] 62) = w14 at *
                      have HB14 : Hid (NI w10 w14 pb 0) := hn
                      have HL14 : Hid (NI w10 w14 pl 0) := HLt
                      have HW14 : Hid (NI w10 w14 p7 (kk : Int)) := HWt
                      have HNE : Hid (pb ≠ pl) := hne
                      clear hn hal hS13 HL13 HLt HW13 HWt hne
                      refine wpAnyJ_next (i := 11) (by kernel_rfl) rfl ?_
                      intro K hK
                      go_simp
                      have HLS : Hid _ := lshI_c w14 pl 0 p7 0 F 0 (kk : Int) 2 (by omega) (by omega) HKB.out HL14.out.2.1 HW14.out.2.1 HL14.out.2.2 HW14.out.2.2
                      go_wp2_with (go_at_call 33; refine Calls.mono (P := Try.prog) HLS.out ?_; intro e w15 hx; obtain ⟨rfl, hS15, hl, -, hkp⟩ := SetTo.step hS14 HL14.out hx)
                      have HL15 : Hid (NI w10 w15 pl ((kk : Int) * 2 ^ F)) := hl
                      have HB15 : Hid (NI w10 w15 pb 0) := hkp pb 0 HNE.out HB14.out
                      refine hK.out _ _ (Or.inr hS15) ?_
                      clear hK K hx hl hkp HLS hS14 HL14 HW14 HB14
                      have HAD : Hid _ := addI_c w15 pb 0 pn 0 pl 0 0 (SV : Int) ((kk : Int) * 2 ^ F) 2 (by omega) HAB.out.1 HAB.out.2 HB15.out.2.1 (G.lt hS15 HNS.out) HL15.out.2.1 HB15.out.2.2 (IntIs.G HNI.out HNS.out hS15) HL15.out.2.2
                      refine wpAnyJ_next (i := 12) (by kernel_rfl) rfl ?_
                      intro K hK
                      go_simp
                      go_wp2_with (go_at_call 32; refine Calls.mono (P := Try.prog) HAD.out ?_; intro e w16 hx; obtain ⟨rfl, hS16, hb16, -, -⟩ := SetTo.step hS15 HB15.out hx)
                      refine hK.out _ _ (Or.inl (by decide)) ?_
                      rw [HSTE.out] at hb16
                      have HB16 : Hid (NI w10 w16 pb (ST : Int)) := hb16
                      have hG16 := G.trans hG10 hS16
                      clear hK K hx hb16 HAD HB15 HL15 hS15 hS16 HNE
                      refine wpAnyJ_next (i := 13) (by kernel_rfl) rfl ?_
                      intro K hK
                      go_simp
                      refine hK.out _ _ (Or.inl (by decide)) ?_
                      clear hK K
                      refine wpAnyJ_done (by kernel_rfl) ?_ _
                      revert HB16
                      revert hG16
                      revert p7
                      revert pl
                      revert pb
                      revert w16
                      exact L17.out
                  · as_aux_lemma =>
                      intro K hK
                      go_simp
                      have HLS : Hid _ := lshI_c w13 pl 0 p7 0 F 0 (kk : Int) 2 (by omega) (by omega) HKB.out HL13.out.2.1 HW13.out.2.1 HL13.out.2.2 HW13.out.2.2
                      go_wp2_with (go_at_call 33; refine Calls.mono (P := Try.prog) HLS.out ?_; intro e w14 hx; obtain ⟨rfl, hS14, hl, -, hkp⟩ := SetTo.step hS13 HL13.out hx)
                      have HL14 : Hid (NI w10 w14 pl ((kk : Int) * 2 ^ F)) := hl
                      refine hK.out _ _ (Or.inr hS14) ?_
                      clear hK K hx hl hkp HLS hS13 HL13 HW13
                      refine wpAnyJ_next (i := 0) (by kernel_rfl) rfl ?_
                      intro K hK
                      go_simp
                      refine hK.out _ _ (Or.inr (hS14.alloc _)) ?_
                      clear hK K
                      have hn := NI.new hS14 62
                      have hal := (G.refl w14).alloc (.cells #[.bool false, .slice none 0 0] 62)
                      have hS15 := G.trans hS14 hal
                      have HLt := HL14.out.G hal
                      have hne : w14.heap.size ≠ pl := by have := HL14.out.2.1; omega
                      generalize w14.heap.size = pb at *
                      generalize w14.alloc (.cells #[.bool false, .slice none 0 0] 62) = w15 at *
                      have HB15 : Hid (NI w10 w15 pb 0) := hn
                      have HL15 : Hid (NI w10 w15 pl ((kk : Int) * 2 ^ F)) := HLt
                      have HNE : Hid (pb ≠ pl) := hne
                      clear hn hal hS14 HL14 HLt hne
                      have HAD : Hid _ := addI_c w15 pb 0 pn 0 pl 0 0 (SV : Int) ((kk : Int) * 2 ^ F) 2 (by omega) HAB.out.1 HAB.out.2 HB15.out.2.1 (G.lt hS15 HNS.out) HL15.out.2.1 HB15.out.2.2 (IntIs.G HNI.out HNS.out hS15) HL15.out.2.2
                      refine wpAnyJ_next (i := 12) (by kernel_rfl) rfl ?_
                      intro K hK
                      go_simp
                      go_wp2_with (go_at_call 32; refine Calls.mono (P := Try.prog) HAD.out ?_; intro e w16 hx; obtain ⟨rfl, hS16, hb16, -, -⟩ := SetTo.step hS15 HB15.out hx)
                      refine hK.out _ _ (Or.inl (by decide)) ?_
                      rw [HSTE.out] at hb16
                      have HB16 : Hid (NI w10 w16 pb (ST : Int)) := hb16
                      have hG16 := G.trans hG10 hS16
                      clear hK K hx hb16 HAD HB15 HL15 hS15 hS16 HNE
                      refine wpAnyJ_next (i := 13) (by kernel_rfl) rfl ?_
                      intro K hK
                      go_simp
                      refine hK.out _ _ (Or.inl (by decide)) ?_
                      clear hK K
                      refine wpAnyJ_done (by kernel_rfl) ?_ _
                      revert HB16
                      revert hG16
                      revert p7
                      revert pl
                      revert pb
                      revert w16
                      exact L17.out
        · skip
          refine Later.mk ?_
          intro w16 pb pl p7 hG16 HB16
          clear hG10 HAB HNI HNS hps10 hd13 hd14
          go_wp2_with fail
          have hc0 := NI.new hG16 62
          have hal := (G.refl w16).alloc (.cells #[.bool false, .slice none 0 0] 62)
          have hG17 := G.trans hG16 hal
          have hbs : pb ≠ w16.heap.size := by have := HB16.out.2.1; omega
          have hb17 : NI w10 _ pb (ST : Int) := HB16.out.G hal
          generalize w16.heap.size = pc at *
          generalize w16.alloc (.cells #[.bool false, .slice none 0 0] 62) = w17 at *
          have HC17 : Hid (NI w w17 pc 0) := hc0
          have HB17 : Hid (pb < w17.heap.size ∧ IntIs w17 pb 0 (ST : Int)) := ⟨hb17.2.1, hb17.2.2⟩
          clear hc0 hal hb17 HB16 hG16
          have HSU : Hid _ := setU_c w17 pc 0 I 0 HI64.out HC17.out.2.1 HC17.out.2.2
          refine Calls.mono (P := Try.prog) HSU.out ?_
          intro e w18 hx
          have hk18 := SetTo.keep HC17.out.2.2 hx HB17.out.2 HB17.out.1 (Or.inl hbs)
          have hs18 := Nat.lt_of_lt_of_le HB17.out.1 (SetTo.size hx)
          obtain ⟨rfl, hG18, hc18, -, -⟩ := SetTo.step hG17 HC17.out hx
          have HC18 : Hid (NI w w18 pc (I : Int)) := hc18
          have HB18 : Hid (pb < w18.heap.size ∧ IntIs w18 pb 0 (ST : Int)) := ⟨hs18, hk18⟩
          clear hx hk18 hs18 hc18 HSU HC17 HB17 hG17 hbs
          go_wp2_with fail
          have HCM : Hid _ := cmpI_c w18 pb 0 pc 0 (ST : Int) (I : Int) 2 (by omega) HST64.out HI64i.out HB18.out.1 HC18.out.2.1 HB18.out.2 HC18.out.2.2
          refine Calls.mono (P := Try.prog) HCM.out ?_
          rintro e w19 ⟨rfl, hg19⟩
          have hG19 := G.trans hG18 hg19
          have hb19 := IntIs.G HB18.out.2 HB18.out.1 hg19
          have HB19 : Hid (IntIs w19 pb 0 (ST : Int)) := hb19
          clear hg19 hb19 HB18 HC18 HCM hG18
          by_cases hge : I ≤ ST
          · have hcv : decide ((0 : Int) ≤ cmpI (ST : Int) (I : Int)) = true := by unfold cmpI; rw [if_neg (by omega)]; split <;> rfl
            have hres := HSTP.out.1 (by rw [← HSTD.out]; exact hge)
            generalize cmpI (ST : Int) (I : Int) = cv at *
            have hor := HOR.out I (Nat.le_refl _)
            clear hge
            go_wp2_with fail
            go_ret
            exact ⟨ret_int (by rw [hres]; first | done | rfl | simp), hG19⟩
          · have hcv : decide ((0 : Int) ≤ cmpI (ST : Int) (I : Int)) = false := by unfold cmpI; rw [if_pos (by omega)]; rfl
            have hres := HSTP.out.2 (by rw [← HSTD.out]; exact hge)
            rw [← HSTD.out] at hres
            generalize cmpI (ST : Int) (I : Int) = cv at *
            have HUI : Hid _ := uint64I_c w19 pb 0 (ST : Int) HST64u.out HB19.out
            rw [Int.natAbs_natCast] at HUI
            have hor := HOR.out ST (by omega)
            clear hge
            go_wp2_with fail
            refine Calls.mono (P := Try.prog) HUI.out ?_
            rintro e w20 ⟨rfl, hg20⟩
            have hG20 := G.trans hG19 hg20
            go_wp2_with fail
            go_ret
            exact ⟨ret_int (by rw [hres]; first | done | rfl | simp), hG20⟩
  · rw [hs, if_neg (by simp)]
    rw [hr] at hb
    rw [hs] at K1
    rw [hb] at K1 ⊢
    have HOR : Hid (∀ n : Nat, n ≤ (2 ^ E - 1) * 2 ^ F → bits BinOp.or IntKind.u64 0 (n : Int) = ((n + 0 : Nat) : Int)) := by
      have hlt : (2 ^ E - 1) * 2 ^ F < 2 ^ (E + F) := by
        rw [Nat.pow_add]
        exact Nat.mul_lt_mul_of_pos_right (by have := Nat.two_pow_pos E; omega) (Nat.two_pow_pos _)
      have h31 : (2 : Nat) ^ (E + F) ≤ 2 ^ 31 := pow_le (by omega)
      show ∀ n : Nat, n ≤ (2 ^ E - 1) * 2 ^ F → bits BinOp.or IntKind.u64 0 (n : Int) = ((n + 0 : Nat) : Int)
      exact fun n hn => or_none n (by omega)
    have HIB : Hid ((2 ^ E - 1) * 2 ^ F < 2 ^ 63) := by
      show (2 ^ E - 1) * 2 ^ F < 2 ^ 63
      have c1 : 2 ^ E ≤ 2 ^ 8 := pow_le hE2
      have c2 : 2 ^ F ≤ 2 ^ 23 := pow_le hF2
      calc (2 ^ E - 1) * 2 ^ F ≤ 2 ^ 8 * 2 ^ 23 := Nat.mul_le_mul (by omega) c2
        _ < 2 ^ 63 := by decide
    generalize (2 ^ E - 1) * 2 ^ F = I at *
    clear hs hb hneg hr hfin hrr hr0 h0
    go_enter Try.func9, Try.ntmps9
    go_wp2_with fail
    refine (K1.out _).mono ?_
    rintro e w1 ⟨rfl, hb1⟩
    have hc111 := hb1.cell (p := ⟨w.heap.size, 0, none⟩) (v := .int .i64 E) (by first | (simp; done) | (simp; omega) | omega) (by first | assumption | (simp [go_sem]; done) | (simp [*, go_sem]; done))
    have hc112 := hb1.cell (p := ⟨w.heap.size, 1, none⟩) (v := .int .i64 F) (by first | (simp; done) | (simp; omega) | omega) (by first | assumption | (simp [go_sem]; done) | (simp [*, go_sem]; done))
    have zhb1 := hb1.size
    try simp at zhb1
    go_wp2_with fail
    refine region_gw (by kernel_rfl) (by kernel_rfl) ?_
    intro W hW
    have hq107 := gw_cell (w := W) (a := ⟨w.heap.size, 0, none⟩) (x := .int .i64 E) (by rw [hW]; first | (simp; done) | (simp; omega) | omega) (by rw [hW]; first | assumption | (simp [go_sem]; done) | (simp [*, go_sem]; done))
    have hq108 := gw_cell (w := W) (a := ⟨w.heap.size, 1, none⟩) (x := .int .i64 F) (by rw [hW]; first | (simp; done) | (simp; omega) | omega) (by rw [hW]; first | assumption | (simp [go_sem]; done) | (simp [*, go_sem]; done))
    clear hW
    repeat (go_big_quiet_step (fail))
    refine wpQuiet_nil ?_
    clear hq107 hq108
    intro w2 hw2
    have hb2 := hw2
    have hd1 := hb2.cell (p := ⟨w.heap.size, 0, none⟩) (v := .int .i64 E) (by simp; omega) (by assumption)
    have hd2 := hb2.cell (p := ⟨w.heap.size, 1, none⟩) (v := .int .i64 F) (by simp; omega) (by assumption)
    have hG2 : G w w2 := (by repeat' (first | exact G.refl _ | assumption | refine G.alloc ?_ _ | refine G.drew ?_ | refine G.drewN ?_ _ | (refine G.trans ?_ (by assumption))))
    have hps : w.heap.size < w2.heap.size := by have := hw2.size; omega
    obtain ⟨pf, hpf⟩ : ∃ pf, pf = w.heap.size := ⟨_, rfl⟩
    rw [← hpf] at hd1 hd2 hps ⊢
    try rw [hsw.out]
    rw [hiw.out]
    clear hb1 hw2 hb2 zhb1 hpf hsw hiw K1
    go_wp2_with fail
    refine Calls.mono (P := Try.prog) (K2.out _) ?_
    rintro e w3 ⟨rfl, hg3⟩
    have hG3 := G.trans hG2 hg3
    have hd5 := hg3.cell hps hd1
    have hd6 := hg3.cell hps hd2
    have hps3 := G.lt hg3 hps
    clear hG2 hg3 hd1 hd2 hps K2
    go_wp2_with fail
    simp only [HBW.out]
    refine Calls.mono (P := Try.prog) (K3.out _) ?_
    rintro e w4 ⟨rfl, hg4⟩
    have hG4 := G.trans hG3 hg4
    have hd7 := hg4.cell hps3 hd5
    have hd8 := hg4.cell hps3 hd6
    have hps4 := G.lt hg4 hps3
    clear hG3 hg4 hd5 hd6 hps3 K3
    by_cases htb : T < 1 - bi
    · obtain ⟨PL, hPL⟩ : ∃ PL, PL = 1 - bi := ⟨_, rfl⟩
      have HPL : Hid (PL = max T (1 - bi)) := by show PL = max T (1 - bi); omega
      have ht1 : decide (T < 1 - bi) = true := decide_eq_true htb
      have hp1 : -130 ≤ PL := by omega
      have hp2 : PL ≤ 1030 := by omega
      have hp3 : 0 ≤ PL + bi - 1 := by omega
      go_wp2_with fail
      rw [← hPL]
      clear ht1 htb hPL
      obtain ⟨A0, B0, ya, yb, NN, DD, hya, hyb, hA0, hB0, hbd, hnd, hnb, hsv⟩ := q_facts (P := PL - F) HMG.out.1 HMG.out.2.1 HMG.out.2.2.1 (by omega) (by omega) KB hKB
      have HRT : Hid _ := HKR.out
      have HWR : Hid (IntKind.i64.wrap (PL - F) = PL - F) := by show IntKind.i64.wrap (PL - F) = PL - F; exact IntWalk.i64_in _ (by omega)
      have HPW : Hid _ := HKP.out (PL - F) (by omega) (by omega)
      rw [hA0, hB0] at HRT
      rw [← hya, ← hyb] at HPW
      have hsl : shV mag (e0 - (PL - F)) ≤ 2 ^ (F + 1) := shV_le2 mag F _ (by have h1 := HMG.out.2.2.2.2; have h2 := HPL.out; omega)
      rw [← HMG.out.2.2.2.1] at hsv
      obtain ⟨SV, hSV⟩ : ∃ SV, SV = shV mag (e0 - (PL - F)) := ⟨_, rfl⟩
      rw [← hSV] at hsv hsl
      have HSV : Hid (roundQ NN DD = SV) := hsv
      have HSVE : Hid (SV = shV mag (e0 - (PL - F))) := hSV
      have HSL : Hid (SV ≤ 2 ^ (F + 1)) := hsl
      have HBD : Hid _ := hbd
      have HND : Hid _ := hnd
      have HNB : Hid (NN < 2 ^ (32 * (2 * KB)) ∧ DD < 2 ^ (32 * (2 * KB)) ∧ 0 < DD) := hnb
      clear hya hyb hA0 hB0 hbd hnd hnb hsv hSV hsl HKR HKP
      apply share
      · intro L15
        refine region_J 8 (G w4) (by kernel_rfl) (by first | exact (G.refl _).drew | exact G.drew (by assumption)) ?_
        intro hSh
        refine wpAnyJ_take (i := 1) (v := ?_) rfl (by kernel_rfl) (by kernel_rfl) (by kernel_rfl) (by kernel_rfl) (by kernel_rfl) (by kernel_rfl) (by kernel_rfl) (fun _ _ _ h => h) (Or.inl ⟨by rfl, ?_⟩) (by assumption) ?_
        rotate_left
        · intro wq hwq
          have hq53 := G.cell (p := ⟨pf, 0, none⟩) (v := .int .i64 E) hwq (by first | assumption | (simp; done) | (simp; omega) | omega) (by assumption)
          have hq54 := G.cell (p := ⟨pf, 1, none⟩) (v := .int .i64 F) hwq (by first | assumption | (simp; done) | (simp; omega) | omega) (by assumption)
          first | (go_simp; done) | (go_simp; with_reducible rfl)
        try simp only [Act.put, List.setIfInBounds_toArray, List.set_cons_zero, List.set_cons_succ]
        refine wpAnyJ_take (i := 3) (v := ?_) rfl (by kernel_rfl) (by kernel_rfl) (by kernel_rfl) (by kernel_rfl) (by kernel_rfl) (by kernel_rfl) (by kernel_rfl) (fun _ _ _ h => h) (Or.inl ⟨by rfl, ?_⟩) (by assumption) ?_
        rotate_left
        · intro wq hwq
          have hq55 := G.cell (p := ⟨pf, 0, none⟩) (v := .int .i64 E) hwq (by first | assumption | (simp; done) | (simp; omega) | omega) (by assumption)
          have hq56 := G.cell (p := ⟨pf, 1, none⟩) (v := .int .i64 F) hwq (by first | assumption | (simp; done) | (simp; omega) | omega) (by assumption)
          first | (go_simp; done) | (go_simp; with_reducible rfl)
        try simp only [Act.put, List.setIfInBounds_toArray, List.set_cons_zero, List.set_cons_succ]
        refine wpAnyJ_take (i := 4) (v := ?_) rfl (by kernel_rfl) (by kernel_rfl) (by kernel_rfl) (by kernel_rfl) (by kernel_rfl) (by kernel_rfl) (by kernel_rfl) (fun _ _ _ h => h) (Or.inl ⟨by rfl, ?_⟩) (by assumption) ?_
        rotate_left
        · intro wq hwq
          have hq57 := G.cell (p := ⟨pf, 0, none⟩) (v := .int .i64 E) hwq (by first | assumption | (simp; done) | (simp; omega) | omega) (by assumption)
          have hq58 := G.cell (p := ⟨pf, 1, none⟩) (v := .int .i64 F) hwq (by first | assumption | (simp; done) | (simp; omega) | omega) (by assumption)
          first | (go_simp; done) | (go_simp; with_reducible rfl)
        try simp only [Act.put, List.setIfInBounds_toArray, List.set_cons_zero, List.set_cons_succ]
        refine wpAnyJ_take (i := 5) (v := ?_) rfl (by kernel_rfl) (by kernel_rfl) (by kernel_rfl) (by kernel_rfl) (by kernel_rfl) (by kernel_rfl) (by kernel_rfl) (fun _ _ _ h => h) (Or.inl ⟨by rfl, ?_⟩) (by assumption) ?_
        rotate_left
        · intro wq hwq
          have hq59 := G.cell (p := ⟨pf, 0, none⟩) (v := .int .i64 E) hwq (by first | assumption | (simp; done) | (simp; omega) | omega) (by assumption)
          have hq60 := G.cell (p := ⟨pf, 1, none⟩) (v := .int .i64 F) hwq (by first | assumption | (simp; done) | (simp; omega) | omega) (by assumption)
          first | (go_simp; done) | (go_simp; with_reducible rfl)
        try simp only [Act.put, List.setIfInBounds_toArray, List.set_cons_zero, List.set_cons_succ]
        refine wpAnyJ_take (i := 6) (v := ?_) rfl (by kernel_rfl) (by kernel_rfl) (by kernel_rfl) (by kernel_rfl) (by kernel_rfl) (by kernel_rfl) (by kernel_rfl) (fun _ _ _ h => h) (Or.inl ⟨by rfl, ?_⟩) (by assumption) ?_
        rotate_left
        · intro wq hwq
          have hq61 := G.cell (p := ⟨pf, 0, none⟩) (v := .int .i64 E) hwq (by first | assumption | (simp; done) | (simp; omega) | omega) (by assumption)
          have hq62 := G.cell (p := ⟨pf, 1, none⟩) (v := .int .i64 F) hwq (by first | assumption | (simp; done) | (simp; omega) | omega) (by assumption)
          first | (go_simp; done) | (go_simp; with_reducible rfl)
        try simp only [Act.put, List.setIfInBounds_toArray, List.set_cons_zero, List.set_cons_succ]
        show wpAnyJ _ _ _ _ _ _ _ _ _ w4.drew
        rw [HWR.out]
        have hS5 := hSh
        generalize w4.drew = w5 at *
        clear hSh
        refine wpAnyJ_two (i := 0) (j := 2) (by kernel_rfl) rfl rfl ?_ ?_
        · skip
          intro K hK
          go_simp
          refine hK.out _ _ (Or.inr (hS5.alloc _)) ?_
          clear hK K
          have hZ6 := RatZ.new w5 64
          have hS6 := hS5.alloc (.cells #[.bool false, .slice none 0 0, .bool false, .slice none 0 0] 64)
          have hzs6 : w5.heap.size < (w5.alloc (.cells #[.bool false, .slice none 0 0, .bool false, .slice none 0 0] 64)).heap.size := by simp
          obtain ⟨pq, hpq⟩ : ∃ pq, pq = w5.heap.size := ⟨_, rfl⟩
          rw [← hpq] at hZ6 hzs6 ⊢
          have hpq0 : w4.heap.size ≤ pq := by have := hS5.size; omega
          clear hpq
          generalize w5.alloc (.cells #[.bool false, .slice none 0 0, .bool false, .slice none 0 0] 64) = w6 at *
          refine wpAnyJ_next (i := 2) (by kernel_rfl) rfl ?_
          intro K hK
          go_simp
          go_wp2_with (go_at_call 29; refine Calls.mono (P := Try.prog) (HRT.out w6) ?_; intro e w7 hx; obtain ⟨p1, rfl, hg7, -, hrs7, hR7⟩ := hx)
          refine hK.out _ _ (Or.inr (G.trans hS6 hg7)) ?_
          clear hK K
          have hS7 := G.trans hS6 hg7
          have hZ7 := hZ6.G hzs6 hg7
          have hzs7 := G.lt hg7 hzs6
          clear hg7
          refine wpAnyJ_next (i := 7) (by kernel_rfl) rfl ?_
          intro K hK
          go_simp
          go_wp2_with (go_at_call 30; refine Calls.mono (P := Try.prog) (HPW.out w7) ?_; intro e w8 hx; obtain ⟨p2, rfl, hg8, -, hks8, hP8⟩ := hx)
          refine hK.out _ _ (Or.inr (G.trans hS7 hg8)) ?_
          clear hK K
          have hS8 := G.trans hS7 hg8
          have hZ8 := hZ7.G hzs7 hg8
          have hzs8 := G.lt hg8 hzs7
          have hR8 := hR7.G hrs7 hg8
          have hrs8 := G.lt hg8 hrs7
          clear hg8
          have HQ : Hid _ := quoR_c w8 pq p1 p2 0 0 A0 ya B0 yb KB (by omega) HBD.out.1 HBD.out.2.1 HBD.out.2.2.1 HBD.out.2.2.2.1 HBD.out.2.2.2.2.1 HBD.out.2.2.2.2.2.1 HBD.out.2.2.2.2.2.2 hzs8 hrs8 hks8 hZ8.rat hR8 hP8
          rw [← HND.out.1, ← HND.out.2] at HQ
          have hq0 := Nat.le_trans hG4.size hpq0
          have hG8 := G.trans hG4 hS8
          have hd9 := hS8.cell hps4 hd7
          have hd10 := hS8.cell hps4 hd8
          have hps8 := G.lt hS8 hps4
          clear hR8 hP8 hZ8 hrs8 hks8
          try clear hR7
          try clear hR6
          try clear hR5
          try clear hP7
          try clear hZ7
          try clear hZ6
          try clear hrs7
          try clear hrs6
          try clear hks7
          try clear hzs7
          try clear hzs6
          try clear hS7
          try clear hS6
          clear hS5
          refine wpAnyJ_next (i := 8) (by kernel_rfl) rfl ?_
          intro K hK
          go_simp
          go_wp2_with (go_at_call 28; refine Calls.mono (P := Try.prog) HQ.out ?_; intro e w9 hx; obtain ⟨rfl, hg9, hR9⟩ := hx)
          refine hK.out _ _ (Or.inl (by decide)) ?_
          clear hK K
          have hG9 := GX.fresh hG8 hg9 hq0
          have hne : pf ≠ pq := by omega
          have hb9 := hg9.block pf hps8 (fun e => hne (Option.some.inj e))
          have hd11 := (World.cell?_of_block hb9).trans hd9
          have hd12 := (World.cell?_of_block hb9).trans hd10
          have hps9 := Nat.lt_of_lt_of_le hps8 hg9.size
          have hqs9 := Nat.lt_of_lt_of_le hzs8 hg9.size
          refine wpAnyJ_next (i := 9) (by kernel_rfl) rfl ?_
          intro K hK
          go_simp
          refine hK.out _ _ (Or.inl (by decide)) ?_
          clear hK K
          refine wpAnyJ_done (by kernel_rfl) ?_ _
          clear hg9 hb9 hd9 hd10 hps8 hzs8 hS8 hG8 hq0 hpq0 hne HQ
          revert hd12
          revert hd11
          revert hps9
          revert hqs9
          revert hR9
          revert hG9
          revert p2
          revert p1
          revert pq
          revert w9
          exact L15.out
        · as_aux_lemma =>
            intro K hK
            go_simp
            go_wp2_with (go_at_call 29; refine Calls.mono (P := Try.prog) (HRT.out w5) ?_; intro e w6 hx; obtain ⟨p1, rfl, hg6, -, hrs6, hR6⟩ := hx)
            refine hK.out _ _ (Or.inr (G.trans hS5 hg6)) ?_
            clear hK K
            have hS6 := G.trans hS5 hg6
            clear hg6
            refine wpAnyJ_two (i := 0) (j := 7) (by kernel_rfl) rfl rfl ?_ ?_
            · as_aux_lemma =>
                intro K hK
                go_simp
                refine hK.out _ _ (Or.inr (hS6.alloc _)) ?_
                clear hK K
                have hZ7 := RatZ.new w6 64
                have hS7 := hS6.alloc (.cells #[.bool false, .slice none 0 0, .bool false, .slice none 0 0] 64)
                have hzs7 : w6.heap.size < (w6.alloc (.cells #[.bool false, .slice none 0 0, .bool false, .slice none 0 0] 64)).heap.size := by simp
                obtain ⟨pq, hpq⟩ : ∃ pq, pq = w6.heap.size := ⟨_, rfl⟩
                rw [← hpq] at hZ7 hzs7 ⊢
                have hpq0 : w4.heap.size ≤ pq := by have := hS6.size; omega
                have hR7 := hR6.G hrs6 ((G.refl w6).alloc (.cells #[.bool false, .slice none 0 0, .bool false, .slice none 0 0] 64))
                have hrs7 := G.lt ((G.refl w6).alloc (.cells #[.bool false, .slice none 0 0, .bool false, .slice none 0 0] 64)) hrs6
                clear hpq
                generalize w6.alloc (.cells #[.bool false, .slice none 0 0, .bool false, .slice none 0 0] 64) = w7 at *
                refine wpAnyJ_next (i := 7) (by kernel_rfl) rfl ?_
                intro K hK
                go_simp
                go_wp2_with (go_at_call 30; refine Calls.mono (P := Try.prog) (HPW.out w7) ?_; intro e w8 hx; obtain ⟨p2, rfl, hg8, -, hks8, hP8⟩ := hx)
                refine hK.out _ _ (Or.inr (G.trans hS7 hg8)) ?_
                clear hK K
                have hS8 := G.trans hS7 hg8
                have hZ8 := hZ7.G hzs7 hg8
                have hzs8 := G.lt hg8 hzs7
                have hR8 := hR7.G hrs7 hg8
                have hrs8 := G.lt hg8 hrs7
                clear hg8
                have HQ : Hid _ := quoR_c w8 pq p1 p2 0 0 A0 ya B0 yb KB (by omega) HBD.out.1 HBD.out.2.1 HBD.out.2.2.1 HBD.out.2.2.2.1 HBD.out.2.2.2.2.1 HBD.out.2.2.2.2.2.1 HBD.out.2.2.2.2.2.2 hzs8 hrs8 hks8 hZ8.rat hR8 hP8
                rw [← HND.out.1, ← HND.out.2] at HQ
                have hq0 := Nat.le_trans hG4.size hpq0
                have hG8 := G.trans hG4 hS8
                have hd9 := hS8.cell hps4 hd7
                have hd10 := hS8.cell hps4 hd8
                have hps8 := G.lt hS8 hps4
                clear hR8 hP8 hZ8 hrs8 hks8
                try clear hR7
                try clear hR6
                try clear hR5
                try clear hP7
                try clear hZ7
                try clear hZ6
                try clear hrs7
                try clear hrs6
                try clear hks7
                try clear hzs7
                try clear hzs6
                try clear hS7
                try clear hS6
                clear hS5
                refine wpAnyJ_next (i := 8) (by kernel_rfl) rfl ?_
                intro K hK
                go_simp
                go_wp2_with (go_at_call 28; refine Calls.mono (P := Try.prog) HQ.out ?_; intro e w9 hx; obtain ⟨rfl, hg9, hR9⟩ := hx)
                refine hK.out _ _ (Or.inl (by decide)) ?_
                clear hK K
                have hG9 := GX.fresh hG8 hg9 hq0
                have hne : pf ≠ pq := by omega
                have hb9 := hg9.block pf hps8 (fun e => hne (Option.some.inj e))
                have hd11 := (World.cell?_of_block hb9).trans hd9
                have hd12 := (World.cell?_of_block hb9).trans hd10
                have hps9 := Nat.lt_of_lt_of_le hps8 hg9.size
                have hqs9 := Nat.lt_of_lt_of_le hzs8 hg9.size
                refine wpAnyJ_next (i := 9) (by kernel_rfl) rfl ?_
                intro K hK
                go_simp
                refine hK.out _ _ (Or.inl (by decide)) ?_
                clear hK K
                refine wpAnyJ_done (by kernel_rfl) ?_ _
                clear hg9 hb9 hd9 hd10 hps8 hzs8 hS8 hG8 hq0 hpq0 hne HQ
                revert hd12
                revert hd11
                revert hps9
                revert hqs9
                revert hR9
                revert hG9
                revert p2
                revert p1
                revert pq
                revert w9
                exact L15.out
            · as_aux_lemma =>
                intro K hK
                go_simp
                go_wp2_with (go_at_call 30; refine Calls.mono (P := Try.prog) (HPW.out w6) ?_; intro e w7 hx; obtain ⟨p2, rfl, hg7, -, hks7, hP7⟩ := hx)
                refine hK.out _ _ (Or.inr (G.trans hS6 hg7)) ?_
                clear hK K
                have hS7 := G.trans hS6 hg7
                have hR7 := hR6.G hrs6 hg7
                have hrs7 := G.lt hg7 hrs6
                clear hg7
                refine wpAnyJ_next (i := 0) (by kernel_rfl) rfl ?_
                intro K hK
                go_simp
                refine hK.out _ _ (Or.inr (hS7.alloc _)) ?_
                clear hK K
                have hZ8 := RatZ.new w7 64
                have hS8 := hS7.alloc (.cells #[.bool false, .slice none 0 0, .bool false, .slice none 0 0] 64)
                have hzs8 : w7.heap.size < (w7.alloc (.cells #[.bool false, .slice none 0 0, .bool false, .slice none 0 0] 64)).heap.size := by simp
                obtain ⟨pq, hpq⟩ : ∃ pq, pq = w7.heap.size := ⟨_, rfl⟩
                rw [← hpq] at hZ8 hzs8 ⊢
                have hpq0 : w4.heap.size ≤ pq := by have := hS7.size; omega
                have hR8 := hR7.G hrs7 ((G.refl w7).alloc (.cells #[.bool false, .slice none 0 0, .bool false, .slice none 0 0] 64))
                have hrs8 := G.lt ((G.refl w7).alloc (.cells #[.bool false, .slice none 0 0, .bool false, .slice none 0 0] 64)) hrs7
                have hP8 := hP7.G hks7 ((G.refl w7).alloc (.cells #[.bool false, .slice none 0 0, .bool false, .slice none 0 0] 64))
                have hks8 := G.lt ((G.refl w7).alloc (.cells #[.bool false, .slice none 0 0, .bool false, .slice none 0 0] 64)) hks7
                clear hpq
                generalize w7.alloc (.cells #[.bool false, .slice none 0 0, .bool false, .slice none 0 0] 64) = w8 at *
                have HQ : Hid _ := quoR_c w8 pq p1 p2 0 0 A0 ya B0 yb KB (by omega) HBD.out.1 HBD.out.2.1 HBD.out.2.2.1 HBD.out.2.2.2.1 HBD.out.2.2.2.2.1 HBD.out.2.2.2.2.2.1 HBD.out.2.2.2.2.2.2 hzs8 hrs8 hks8 hZ8.rat hR8 hP8
                rw [← HND.out.1, ← HND.out.2] at HQ
                have hq0 := Nat.le_trans hG4.size hpq0
                have hG8 := G.trans hG4 hS8
                have hd9 := hS8.cell hps4 hd7
                have hd10 := hS8.cell hps4 hd8
                have hps8 := G.lt hS8 hps4
                clear hR8 hP8 hZ8 hrs8 hks8
                try clear hR7
                try clear hR6
                try clear hR5
                try clear hP7
                try clear hZ7
                try clear hZ6
                try clear hrs7
                try clear hrs6
                try clear hks7
                try clear hzs7
                try clear hzs6
                try clear hS7
                try clear hS6
                clear hS5
                refine wpAnyJ_next (i := 8) (by kernel_rfl) rfl ?_
                intro K hK
                go_simp
                go_wp2_with (go_at_call 28; refine Calls.mono (P := Try.prog) HQ.out ?_; intro e w9 hx; obtain ⟨rfl, hg9, hR9⟩ := hx)
                refine hK.out _ _ (Or.inl (by decide)) ?_
                clear hK K
                have hG9 := GX.fresh hG8 hg9 hq0
                have hne : pf ≠ pq := by omega
                have hb9 := hg9.block pf hps8 (fun e => hne (Option.some.inj e))
                have hd11 := (World.cell?_of_block hb9).trans hd9
                have hd12 := (World.cell?_of_block hb9).trans hd10
                have hps9 := Nat.lt_of_lt_of_le hps8 hg9.size
                have hqs9 := Nat.lt_of_lt_of_le hzs8 hg9.size
                refine wpAnyJ_next (i := 9) (by kernel_rfl) rfl ?_
                intro K hK
                go_simp
                refine hK.out _ _ (Or.inl (by decide)) ?_
                clear hK K
                refine wpAnyJ_done (by kernel_rfl) ?_ _
                clear hg9 hb9 hd9 hd10 hps8 hzs8 hS8 hG8 hq0 hpq0 hne HQ
                revert hd12
                revert hd11
                revert hps9
                revert hqs9
                revert hR9
                revert hG9
                revert p2
                revert p1
                revert pq
                revert w9
                exact L15.out
      · skip
        refine Later.mk ?_
        intro w9 pq p1 p2 hG9 hR9 hqs9 hps9 hd11 hd12
        have HNI : Hid _ := nearInt_c w9 pq NN DD (2 * KB) (by omega) HNB.out.1 HNB.out.2.1 HNB.out.2.2 hqs9 hR9
        rw [HSV.out] at HNI
        clear hR9 hqs9 HNB HSV HBD HND HRT HPW HWR hd7 hd8 hG4 hps4
        go_wp2_with fail
        refine Calls.mono (P := Try.prog) HNI.out ?_
        intro e w10 hni
        obtain ⟨pn, rfl, hg10, hpn1, hpn2, hpni⟩ := hni
        have hG10 := G.trans hG9 hg10
        have hd13 := hg10.cell hps9 hd11
        have hd14 := hg10.cell hps9 hd12
        have hps10 := G.lt hg10 hps9
        clear hg10 hG9 hd11 hd12 hps9 hpn1 HNI
        go_wp2_with fail
        have HNS : Hid (pn < w10.heap.size) := hpn2
        have HNI : Hid (IntIs w10 pn 0 (SV : Int)) := hpni
        clear hpn2 hpni
        obtain ⟨kk, hkk⟩ : ∃ kk : Nat, (kk : Int) = PL + bi - 1 := ⟨(PL + bi - 1).toNat, by omega⟩
        have hkb : kk ≤ 2000 := by omega
        have HW1 : Hid (IntKind.i64.wrap (IntKind.i64.wrap (PL + bi) - 1) = (kk : Int)) := by
          show IntKind.i64.wrap (IntKind.i64.wrap (PL + bi) - 1) = (kk : Int)
          rw [IntWalk.i64_in (PL + bi) (by omega), IntWalk.i64_in _ (by omega), hkk]
        have HW2 : Hid (IntKind.u64.wrap (F : Int) = (F : Int)) := IntWalk.u64_in _ (by omega)
        have HKK : Hid (-9223372036854775808 ≤ (kk : Int) ∧ (kk : Int) ≤ 9223372036854775807) := ⟨by omega, by omega⟩
        have HKB : Hid ((kk : Int).natAbs < 2 ^ (32 * 2)) := by show (kk : Int).natAbs < 2 ^ (32 * 2); omega
        have hF23 : 2 ^ F ≤ 2 ^ 23 := pow_le (by omega)
        have hF24 : 2 ^ (F + 1) ≤ 2 ^ 24 := pow_le (by omega)
        have hkF : kk * 2 ^ F ≤ 2000 * 2 ^ 23 := Nat.mul_le_mul hkb hF23
        have hsl := HSL.out
        obtain ⟨ST, hST⟩ : ∃ ST, ST = SV + kk * 2 ^ F := ⟨_, rfl⟩
        have hkFi : (kk : Int) * 2 ^ F = ((kk * 2 ^ F : Nat) : Int) := by rw [FT.ipow]; push_cast; rfl
        have HSTE : Hid ((SV : Int) + (kk : Int) * 2 ^ F = (ST : Int)) := by show (SV : Int) + (kk : Int) * 2 ^ F = (ST : Int); rw [hkFi, hST]; push_cast; rfl
        have HAB : Hid ((SV : Int).natAbs < 2 ^ (32 * 2) ∧ ((kk : Int) * 2 ^ F).natAbs < 2 ^ (32 * 2)) := ⟨by rw [Int.natAbs_natCast]; omega, by rw [hkFi, Int.natAbs_natCast]; omega⟩
        have HST64 : Hid ((ST : Int).natAbs < 2 ^ (32 * 2)) := by show (ST : Int).natAbs < 2 ^ (32 * 2); rw [Int.natAbs_natCast]; omega
        have HST64u : Hid ((ST : Int).natAbs < 2 ^ 64) := by show (ST : Int).natAbs < 2 ^ 64; rw [Int.natAbs_natCast]; omega
        have HI64 : Hid (I < 2 ^ 64) := by show I < 2 ^ 64; have := HIB.out; omega
        have HI64i : Hid ((I : Int).natAbs < 2 ^ (32 * 2)) := by show (I : Int).natAbs < 2 ^ (32 * 2); rw [Int.natAbs_natCast]; have := HIB.out; omega
        have HSTD : Hid (ST = stepsV E F mag e0) := by
          show ST = stepsV E F mag e0
          have h1 : placeV E mag e0 = PL := by
            unfold placeV
            rw [← HMG.out.2.2.2.2, HPL.out, HBI.out]
            congr 1
            omega
          unfold stepsV
          rw [h1, hST, HSVE.out, Nat.add_comm, show (PL - (2 - 2 ^ (E - 1))).toNat = kk from by have := HBI.out; omega]
        clear hkb hF23 hF24 hkF hsl hST hkFi hkk HSVE HSL HPL
        apply share
        · intro L17
          refine region_J 12 (G w10) (by kernel_rfl) (by first | exact (G.refl _).drew | exact G.drew (by assumption)) ?_
          intro hSh
          refine wpAnyJ_take (i := 1) (v := ?_) rfl (by kernel_rfl) (by kernel_rfl) (by kernel_rfl) (by kernel_rfl) (by kernel_rfl) (by kernel_rfl) (by kernel_rfl) (fun _ _ _ h => h) (Or.inl ⟨by rfl, ?_⟩) (by assumption) ?_
          rotate_left
          · intro wq hwq
            have hq63 := G.cell (p := ⟨pf, 0, none⟩) (v := .int .i64 E) hwq (by first | assumption | (simp; done) | (simp; omega) | omega) (by assumption)
            have hq64 := G.cell (p := ⟨pf, 1, none⟩) (v := .int .i64 F) hwq (by first | assumption | (simp; done) | (simp; omega) | omega) (by assumption)
            first | (go_simp; done) | (go_simp; with_reducible rfl)
          try simp only [Act.put, List.setIfInBounds_toArray, List.set_cons_zero, List.set_cons_succ]
          refine wpAnyJ_take (i := 3) (v := ?_) rfl (by kernel_rfl) (by kernel_rfl) (by kernel_rfl) (by kernel_rfl) (by kernel_rfl) (by kernel_rfl) (by kernel_rfl) (fun _ _ _ h => h) (Or.inl ⟨by rfl, ?_⟩) (by assumption) ?_
          rotate_left
          · intro wq hwq
            have hq65 := G.cell (p := ⟨pf, 0, none⟩) (v := .int .i64 E) hwq (by first | assumption | (simp; done) | (simp; omega) | omega) (by assumption)
            have hq66 := G.cell (p := ⟨pf, 1, none⟩) (v := .int .i64 F) hwq (by first | assumption | (simp; done) | (simp; omega) | omega) (by assumption)
            first | (go_simp; done) | (go_simp; with_reducible rfl)
          try simp only [Act.put, List.setIfInBounds_toArray, List.set_cons_zero, List.set_cons_succ]
          refine wpAnyJ_take (i := 4) (v := ?_) rfl (by kernel_rfl) (by kernel_rfl) (by kernel_rfl) (by kernel_rfl) (by kernel_rfl) (by kernel_rfl) (by kernel_rfl) (fun _ _ _ h => h) (Or.inl ⟨by rfl, ?_⟩) (by assumption) ?_
          rotate_left
          · intro wq hwq
            have hq67 := G.cell (p := ⟨pf, 0, none⟩) (v := .int .i64 E) hwq (by first | assumption | (simp; done) | (simp; omega) | omega) (by assumption)
            have hq68 := G.cell (p := ⟨pf, 1, none⟩) (v := .int .i64 F) hwq (by first | assumption | (simp; done) | (simp; omega) | omega) (by assumption)
            first | (go_simp; done) | (go_simp; with_reducible rfl)
          try simp only [Act.put, List.setIfInBounds_toArray, List.set_cons_zero, List.set_cons_succ]
          refine wpAnyJ_take (i := 5) (v := ?_) rfl (by kernel_rfl) (by kernel_rfl) (by kernel_rfl) (by kernel_rfl) (by kernel_rfl) (by kernel_rfl) (by kernel_rfl) (fun _ _ _ h => h) (Or.inl ⟨by rfl, ?_⟩) (by assumption) ?_
          rotate_left
          · intro wq hwq
            have hq69 := G.cell (p := ⟨pf, 0, none⟩) (v := .int .i64 E) hwq (by first | assumption | (simp; done) | (simp; omega) | omega) (by assumption)
            have hq70 := G.cell (p := ⟨pf, 1, none⟩) (v := .int .i64 F) hwq (by first | assumption | (simp; done) | (simp; omega) | omega) (by assumption)
            first | (go_simp; done) | (go_simp; with_reducible rfl)
          try simp only [Act.put, List.setIfInBounds_toArray, List.set_cons_zero, List.set_cons_succ]
          refine wpAnyJ_take (i := 6) (v := ?_) rfl (by kernel_rfl) (by kernel_rfl) (by kernel_rfl) (by kernel_rfl) (by kernel_rfl) (by kernel_rfl) (by kernel_rfl) (fun _ _ _ h => h) (Or.inl ⟨by rfl, ?_⟩) (by assumption) ?_
          rotate_left
          · intro wq hwq
            have hq71 := G.cell (p := ⟨pf, 0, none⟩) (v := .int .i64 E) hwq (by first | assumption | (simp; done) | (simp; omega) | omega) (by assumption)
            have hq72 := G.cell (p := ⟨pf, 1, none⟩) (v := .int .i64 F) hwq (by first | assumption | (simp; done) | (simp; omega) | omega) (by assumption)
            first | (go_simp; done) | (go_simp; with_reducible rfl)
          try simp only [Act.put, List.setIfInBounds_toArray, List.set_cons_zero, List.set_cons_succ]
          refine wpAnyJ_take (i := 8) (v := ?_) rfl (by kernel_rfl) (by kernel_rfl) (by kernel_rfl) (by kernel_rfl) (by kernel_rfl) (by kernel_rfl) (by kernel_rfl) (fun _ _ _ h => h) (Or.inl ⟨by rfl, ?_⟩) (by assumption) ?_
          rotate_left
          · intro wq hwq
            have hq73 := G.cell (p := ⟨pf, 0, none⟩) (v := .int .i64 E) hwq (by first | assumption | (simp; done) | (simp; omega) | omega) (by assumption)
            have hq74 := G.cell (p := ⟨pf, 1, none⟩) (v := .int .i64 F) hwq (by first | assumption | (simp; done) | (simp; omega) | omega) (by assumption)
            first | (go_simp; done) | (go_simp; with_reducible rfl)
          try simp only [Act.put, List.setIfInBounds_toArray, List.set_cons_zero, List.set_cons_succ]
          refine wpAnyJ_take (i := 9) (v := ?_) rfl (by kernel_rfl) (by kernel_rfl) (by kernel_rfl) (by kernel_rfl) (by kernel_rfl) (by kernel_rfl) (by kernel_rfl) (fun _ _ _ h => h) (Or.inl ⟨by rfl, ?_⟩) (by assumption) ?_
          rotate_left
          · intro wq hwq
            have hq75 := G.cell (p := ⟨pf, 0, none⟩) (v := .int .i64 E) hwq (by first | assumption | (simp; done) | (simp; omega) | omega) (by assumption)
            have hq76 := G.cell (p := ⟨pf, 1, none⟩) (v := .int .i64 F) hwq (by first | assumption | (simp; done) | (simp; omega) | omega) (by assumption)
            first | (go_simp; done) | (go_simp; with_reducible rfl)
          try simp only [Act.put, List.setIfInBounds_toArray, List.set_cons_zero, List.set_cons_succ]
          refine wpAnyJ_take (i := 10) (v := ?_) rfl (by kernel_rfl) (by kernel_rfl) (by kernel_rfl) (by kernel_rfl) (by kernel_rfl) (by kernel_rfl) (by kernel_rfl) (fun _ _ _ h => h) (Or.inl ⟨by rfl, ?_⟩) (by assumption) ?_
          rotate_left
          · intro wq hwq
            have hq77 := G.cell (p := ⟨pf, 0, none⟩) (v := .int .i64 E) hwq (by first | assumption | (simp; done) | (simp; omega) | omega) (by assumption)
            have hq78 := G.cell (p := ⟨pf, 1, none⟩) (v := .int .i64 F) hwq (by first | assumption | (simp; done) | (simp; omega) | omega) (by assumption)
            first | (go_simp; done) | (go_simp; with_reducible rfl)
          try simp only [Act.put, List.setIfInBounds_toArray, List.set_cons_zero, List.set_cons_succ]
          show wpAnyJ _ _ _ _ _ _ _ _ _ w10.drew
          rw [HW1.out, HW2.out]
          have hS11 := hSh
          generalize w10.drew = w11 at *
          clear hSh
          refine wpAnyJ_three (i := 0) (j := 2) (l := 7) (by kernel_rfl) rfl rfl rfl ?_ ?_ ?_
          · skip
            intro K hK
            go_simp
            refine hK.out _ _ (Or.inr (hS11.alloc _)) ?_
            clear hK K
            have hn := NI.new hS11 62
            have hal := (G.refl w11).alloc (.cells #[.bool false, .slice none 0 0] 62)
            have hS12 := G.trans hS11 hal
            generalize w11.heap.size = pb at *
            generalize w11.alloc (.cells #[.bool false, .slice none 0 0] 62) = w12 at *
            have HB12 : Hid (NI w10 w12 pb 0) := hn
            clear hn hal hS11
            refine wpAnyJ_two (i := 2) (j := 7) (by kernel_rfl) rfl rfl ?_ ?_
            · skip
              intro K hK
              go_simp
              refine hK.out _ _ (Or.inr (hS12.alloc _)) ?_
              clear hK K
              have hn := NI.new hS12 62
              have hal := (G.refl w12).alloc (.cells #[.bool false, .slice none 0 0] 62)
              have hS13 := G.trans hS12 hal
              have HBt := HB12.out.G hal
              have hne : w12.heap.size ≠ pb := by have := HB12.out.2.1; omega
              generalize w12.heap.size = pl at *
              generalize w12.alloc (.cells #[.bool false, .slice none 0 0] 62) = w13 at *
              have HL13 : Hid (NI w10 w13 pl 0) := hn
              have HB13 : Hid (NI w10 w13 pb 0) := HBt
              have HNE : Hid (pb ≠ pl) := hne.symm
              clear hn hal hS12 HB12 HBt hne
              refine wpAnyJ_next (i := 7) (by kernel_rfl) rfl ?_
              intro K hK
              go_simp
              go_wp2_with (go_at_call 34; refine Calls.mono (P := Try.prog) (newI_c w13 (kk : Int) HKK.out) ?_; intro e w14 hx; obtain ⟨p7, rfl, hg, h71, h72, h73⟩ := hx)
              refine hK.out _ _ (Or.inr (G.trans hS13 hg)) ?_
              clear hK K
              have hS14 := G.trans hS13 hg
              have hsz := hS13.size
              have HW14 : Hid (NI w10 w14 p7 (kk : Int)) := ⟨by omega, h72, h73⟩
              have HB14 : Hid (NI w10 w14 pb 0) := HB13.out.G hg
              have HL14 : Hid (NI w10 w14 pl 0) := HL13.out.G hg
              clear hg h71 h72 h73 hsz hS13 HB13 HL13
              refine wpAnyJ_next (i := 11) (by kernel_rfl) rfl ?_
              intro K hK
              go_simp
              have HLS : Hid _ := lshI_c w14 pl 0 p7 0 F 0 (kk : Int) 2 (by omega) (by omega) HKB.out HL14.out.2.1 HW14.out.2.1 HL14.out.2.2 HW14.out.2.2
              go_wp2_with (go_at_call 33; refine Calls.mono (P := Try.prog) HLS.out ?_; intro e w15 hx; obtain ⟨rfl, hS15, hl, -, hkp⟩ := SetTo.step hS14 HL14.out hx)
              have HL15 : Hid (NI w10 w15 pl ((kk : Int) * 2 ^ F)) := hl
              have HB15 : Hid (NI w10 w15 pb 0) := hkp pb 0 HNE.out HB14.out
              refine hK.out _ _ (Or.inr hS15) ?_
              clear hK K hx hl hkp HLS hS14 HL14 HW14 HB14
              have HAD : Hid _ := addI_c w15 pb 0 pn 0 pl 0 0 (SV : Int) ((kk : Int) * 2 ^ F) 2 (by omega) HAB.out.1 HAB.out.2 HB15.out.2.1 (G.lt hS15 HNS.out) HL15.out.2.1 HB15.out.2.2 (IntIs.G HNI.out HNS.out hS15) HL15.out.2.2
              refine wpAnyJ_next (i := 12) (by kernel_rfl) rfl ?_
              intro K hK
              go_simp
              go_wp2_with (go_at_call 32; refine Calls.mono (P := Try.prog) HAD.out ?_; intro e w16 hx; obtain ⟨rfl, hS16, hb16, -, -⟩ := SetTo.step hS15 HB15.out hx)
              refine hK.out _ _ (Or.inl (by decide)) ?_
              rw [HSTE.out] at hb16
              have HB16 : Hid (NI w10 w16 pb (ST : Int)) := hb16
              have hG16 := G.trans hG10 hS16
              clear hK K hx hb16 HAD HB15 HL15 hS15 hS16 HNE
              refine wpAnyJ_next (i := 13) (by kernel_rfl) rfl ?_
              intro K hK
              go_simp
              refine hK.out _ _ (Or.inl (by decide)) ?_
              clear hK K
              refine wpAnyJ_done (by kernel_rfl) ?_ _
              revert HB16
              revert hG16
              revert p7
              revert pl
              revert pb
              revert w16
              exact L17.out
            · as_aux_lemma =>
                intro K hK
                go_simp
                go_wp2_with (go_at_call 34; refine Calls.mono (P := Try.prog) (newI_c w12 (kk : Int) HKK.out) ?_; intro e w13 hx; obtain ⟨p7, rfl, hg, h71, h72, h73⟩ := hx)
                refine hK.out _ _ (Or.inr (G.trans hS12 hg)) ?_
                clear hK K
                have hS13 := G.trans hS12 hg
                have hsz := hS12.size
                have HW13 : Hid (NI w10 w13 p7 (kk : Int)) := ⟨by omega, h72, h73⟩
                have HB13 : Hid (NI w10 w13 pb 0) := HB12.out.G hg
                clear hg h71 h72 h73 hsz hS12 HB12
                refine wpAnyJ_next (i := 2) (by kernel_rfl) rfl ?_
                intro K hK
                go_simp
                refine hK.out _ _ (Or.inr (hS13.alloc _)) ?_
                clear hK K
                have hn := NI.new hS13 62
                have hal := (G.refl w13).alloc (.cells #[.bool false, .slice none 0 0] 62)
                have hS14 := G.trans hS13 hal
                have HBt := HB13.out.G hal
                have HWt := HW13.out.G hal
                have hne : w13.heap.size ≠ pb := by have := HB13.out.2.1; omega
                generalize w13.heap.size = pl at *
                generalize w13.alloc (.cells #[.bool false, .slice none 0 0] 62) = w14 at *
                have HL14 : Hid (NI w10 w14 pl 0) := hn
                have HB14 : Hid (NI w10 w14 pb 0) := HBt
                have HW14 : Hid (NI w10 w14 p7 (kk : Int)) := HWt
                have HNE : Hid (pb ≠ pl) := hne.symm
                clear hn hal hS13 HB13 HBt HW13 HWt hne
                refine wpAnyJ_next (i := 11) (by kernel_rfl) rfl ?_
                intro K hK
                go_simp
                have HLS : Hid _ := lshI_c w14 pl 0 p7 0 F 0 (kk : Int) 2 (by omega) (by omega) HKB.out HL14.out.2.1 HW14.out.2.1 HL14.out.2.2 HW14.out.2.2
                go_wp2_with (go_at_call 33; refine Calls.mono (P := Try.prog) HLS.out ?_; intro e w15 hx; obtain ⟨rfl, hS15, hl, -, hkp⟩ := SetTo.step hS14 HL14.out hx)
                have HL15 : Hid (NI w10 w15 pl ((kk : Int) * 2 ^ F)) := hl
                have HB15 : Hid (NI w10 w15 pb 0) := hkp pb 0 HNE.out HB14.out
                refine hK.out _ _ (Or.inr hS15) ?_
                clear hK K hx hl hkp HLS hS14 HL14 HW14 HB14
                have HAD : Hid _ := addI_c w15 pb 0 pn 0 pl 0 0 (SV : Int) ((kk : Int) * 2 ^ F) 2 (by omega) HAB.out.1 HAB.out.2 HB15.out.2.1 (G.lt hS15 HNS.out) HL15.out.2.1 HB15.out.2.2 (IntIs.G HNI.out HNS.out hS15) HL15.out.2.2
                refine wpAnyJ_next (i := 12) (by kernel_rfl) rfl ?_
                intro K hK
                go_simp
                go_wp2_with (go_at_call 32; refine Calls.mono (P := Try.prog) HAD.out ?_; intro e w16 hx; obtain ⟨rfl, hS16, hb16, -, -⟩ := SetTo.step hS15 HB15.out hx)
                refine hK.out _ _ (Or.inl (by decide)) ?_
                rw [HSTE.out] at hb16
                have HB16 : Hid (NI w10 w16 pb (ST : Int)) := hb16
                have hG16 := G.trans hG10 hS16
                clear hK K hx hb16 HAD HB15 HL15 hS15 hS16 HNE
                refine wpAnyJ_next (i := 13) (by kernel_rfl) rfl ?_
                intro K hK
                go_simp
                refine hK.out _ _ (Or.inl (by decide)) ?_
                clear hK K
                refine wpAnyJ_done (by kernel_rfl) ?_ _
                revert HB16
                revert hG16
                revert p7
                revert pl
                revert pb
                revert w16
                exact L17.out
          · as_aux_lemma =>
              intro K hK
              go_simp
              refine hK.out _ _ (Or.inr (hS11.alloc _)) ?_
              clear hK K
              have hn := NI.new hS11 62
              have hal := (G.refl w11).alloc (.cells #[.bool false, .slice none 0 0] 62)
              have hS12 := G.trans hS11 hal
              generalize w11.heap.size = pl at *
              generalize w11.alloc (.cells #[.bool false, .slice none 0 0] 62) = w12 at *
              have HL12 : Hid (NI w10 w12 pl 0) := hn
              clear hn hal hS11
              refine wpAnyJ_two (i := 0) (j := 7) (by kernel_rfl) rfl rfl ?_ ?_
              · as_aux_lemma =>
                  intro K hK
                  go_simp
                  refine hK.out _ _ (Or.inr (hS12.alloc _)) ?_
                  clear hK K
                  have hn := NI.new hS12 62
                  have hal := (G.refl w12).alloc (.cells #[.bool false, .slice none 0 0] 62)
                  have hS13 := G.trans hS12 hal
                  have HLt := HL12.out.G hal
                  have hne : w12.heap.size ≠ pl := by have := HL12.out.2.1; omega
                  generalize w12.heap.size = pb at *
                  generalize w12.alloc (.cells #[.bool false, .slice none 0 0] 62) = w13 at *
                  have HB13 : Hid (NI w10 w13 pb 0) := hn
                  have HL13 : Hid (NI w10 w13 pl 0) := HLt
                  have HNE : Hid (pb ≠ pl) := hne
                  clear hn hal hS12 HL12 HLt hne
                  refine wpAnyJ_next (i := 7) (by kernel_rfl) rfl ?_
                  intro K hK
                  go_simp
                  go_wp2_with (go_at_call 34; refine Calls.mono (P := Try.prog) (newI_c w13 (kk : Int) HKK.out) ?_; intro e w14 hx; obtain ⟨p7, rfl, hg, h71, h72, h73⟩ := hx)
                  refine hK.out _ _ (Or.inr (G.trans hS13 hg)) ?_
                  clear hK K
                  have hS14 := G.trans hS13 hg
                  have hsz := hS13.size
                  have HW14 : Hid (NI w10 w14 p7 (kk : Int)) := ⟨by omega, h72, h73⟩
                  have HB14 : Hid (NI w10 w14 pb 0) := HB13.out.G hg
                  have HL14 : Hid (NI w10 w14 pl 0) := HL13.out.G hg
                  clear hg h71 h72 h73 hsz hS13 HB13 HL13
                  refine wpAnyJ_next (i := 11) (by kernel_rfl) rfl ?_
                  intro K hK
                  go_simp
                  have HLS : Hid _ := lshI_c w14 pl 0 p7 0 F 0 (kk : Int) 2 (by omega) (by omega) HKB.out HL14.out.2.1 HW14.out.2.1 HL14.out.2.2 HW14.out.2.2
                  go_wp2_with (go_at_call 33; refine Calls.mono (P := Try.prog) HLS.out ?_; intro e w15 hx; obtain ⟨rfl, hS15, hl, -, hkp⟩ := SetTo.step hS14 HL14.out hx)
                  have HL15 : Hid (NI w10 w15 pl ((kk : Int) * 2 ^ F)) := hl
                  have HB15 : Hid (NI w10 w15 pb 0) := hkp pb 0 HNE.out HB14.out
                  refine hK.out _ _ (Or.inr hS15) ?_
                  clear hK K hx hl hkp HLS hS14 HL14 HW14 HB14
                  have HAD : Hid _ := addI_c w15 pb 0 pn 0 pl 0 0 (SV : Int) ((kk : Int) * 2 ^ F) 2 (by omega) HAB.out.1 HAB.out.2 HB15.out.2.1 (G.lt hS15 HNS.out) HL15.out.2.1 HB15.out.2.2 (IntIs.G HNI.out HNS.out hS15) HL15.out.2.2
                  refine wpAnyJ_next (i := 12) (by kernel_rfl) rfl ?_
                  intro K hK
                  go_simp
                  go_wp2_with (go_at_call 32; refine Calls.mono (P := Try.prog) HAD.out ?_; intro e w16 hx; obtain ⟨rfl, hS16, hb16, -, -⟩ := SetTo.step hS15 HB15.out hx)
                  refine hK.out _ _ (Or.inl (by decide)) ?_
                  rw [HSTE.out] at hb16
                  have HB16 : Hid (NI w10 w16 pb (ST : Int)) := hb16
                  have hG16 := G.trans hG10 hS16
                  clear hK K hx hb16 HAD HB15 HL15 hS15 hS16 HNE
                  refine wpAnyJ_next (i := 13) (by kernel_rfl) rfl ?_
                  intro K hK
                  go_simp
                  refine hK.out _ _ (Or.inl (by decide)) ?_
                  clear hK K
                  refine wpAnyJ_done (by kernel_rfl) ?_ _
                  revert HB16
                  revert hG16
                  revert p7
                  revert pl
                  revert pb
                  revert w16
                  exact L17.out
              · as_aux_lemma =>
                  intro K hK
                  go_simp
                  go_wp2_with (go_at_call 34; refine Calls.mono (P := Try.prog) (newI_c w12 (kk : Int) HKK.out) ?_; intro e w13 hx; obtain ⟨p7, rfl, hg, h71, h72, h73⟩ := hx)
                  refine hK.out _ _ (Or.inr (G.trans hS12 hg)) ?_
                  clear hK K
                  have hS13 := G.trans hS12 hg
                  have hsz := hS12.size
                  have HW13 : Hid (NI w10 w13 p7 (kk : Int)) := ⟨by omega, h72, h73⟩
                  have HL13 : Hid (NI w10 w13 pl 0) := HL12.out.G hg
                  clear hg h71 h72 h73 hsz hS12 HL12
                  refine wpAnyJ_two (i := 0) (j := 11) (by kernel_rfl) rfl rfl ?_ ?_
                  · as_aux_lemma =>
                      intro K hK
                      go_simp
                      refine hK.out _ _ (Or.inr (hS13.alloc _)) ?_
                      clear hK K
                      have hn := NI.new hS13 62
                      have hal := (G.refl w13).alloc (.cells #[.bool false, .slice none 0 0] 62)
                      have hS14 := G.trans hS13 hal
                      have HLt := HL13.out.G hal
                      have HWt := HW13.out.G hal
                      have hne : w13.heap.size ≠ pl := by have := HL13.out.2.1; omega
                      generalize w13.heap.size = pb at *
                      generalize w13.alloc (.cells #[.bool false, .slice none 0 0] 62) = w14 at *
                      have HB14 : Hid (NI w10 w14 pb 0) := hn
                      have HL14 : Hid (NI w10 w14 pl 0) := HLt
                      have HW14 : Hid (NI w10 w14 p7 (kk : Int)) := HWt
                      have HNE : Hid (pb ≠ pl) := hne
                      clear hn hal hS13 HL13 HLt HW13 HWt hne
                      refine wpAnyJ_next (i := 11) (by kernel_rfl) rfl ?_
                      intro K hK
                      go_simp
                      have HLS : Hid _ := lshI_c w14 pl 0 p7 0 F 0 (kk : Int) 2 (by omega) (by omega) HKB.out HL14.out.2.1 HW14.out.2.1 HL14.out.2.2 HW14.out.2.2
                      go_wp2_with (go_at_call 33; refine Calls.mono (P := Try.prog) HLS.out ?_; intro e w15 hx; obtain ⟨rfl, hS15, hl, -, hkp⟩ := SetTo.step hS14 HL14.out hx)
                      have HL15 : Hid (NI w10 w15 pl ((kk : Int) * 2 ^ F)) := hl
                      have HB15 : Hid (NI w10 w15 pb 0) := hkp pb 0 HNE.out HB14.out
                      refine hK.out _ _ (Or.inr hS15) ?_
                      clear hK K hx hl hkp HLS hS14 HL14 HW14 HB14
                      have HAD : Hid _ := addI_c w15 pb 0 pn 0 pl 0 0 (SV : Int) ((kk : Int) * 2 ^ F) 2 (by omega) HAB.out.1 HAB.out.2 HB15.out.2.1 (G.lt hS15 HNS.out) HL15.out.2.1 HB15.out.2.2 (IntIs.G HNI.out HNS.out hS15) HL15.out.2.2
                      refine wpAnyJ_next (i := 12) (by kernel_rfl) rfl ?_
                      intro K hK
                      go_simp
                      go_wp2_with (go_at_call 32; refine Calls.mono (P := Try.prog) HAD.out ?_; intro e w16 hx; obtain ⟨rfl, hS16, hb16, -, -⟩ := SetTo.step hS15 HB15.out hx)
                      refine hK.out _ _ (Or.inl (by decide)) ?_
                      rw [HSTE.out] at hb16
                      have HB16 : Hid (NI w10 w16 pb (ST : Int)) := hb16
                      have hG16 := G.trans hG10 hS16
                      clear hK K hx hb16 HAD HB15 HL15 hS15 hS16 HNE
                      refine wpAnyJ_next (i := 13) (by kernel_rfl) rfl ?_
                      intro K hK
                      go_simp
                      refine hK.out _ _ (Or.inl (by decide)) ?_
                      clear hK K
                      refine wpAnyJ_done (by kernel_rfl) ?_ _
                      revert HB16
                      revert hG16
                      revert p7
                      revert pl
                      revert pb
                      revert w16
                      exact L17.out
                  · as_aux_lemma =>
                      intro K hK
                      go_simp
                      have HLS : Hid _ := lshI_c w13 pl 0 p7 0 F 0 (kk : Int) 2 (by omega) (by omega) HKB.out HL13.out.2.1 HW13.out.2.1 HL13.out.2.2 HW13.out.2.2
                      go_wp2_with (go_at_call 33; refine Calls.mono (P := Try.prog) HLS.out ?_; intro e w14 hx; obtain ⟨rfl, hS14, hl, -, hkp⟩ := SetTo.step hS13 HL13.out hx)
                      have HL14 : Hid (NI w10 w14 pl ((kk : Int) * 2 ^ F)) := hl
                      refine hK.out _ _ (Or.inr hS14) ?_
                      clear hK K hx hl hkp HLS hS13 HL13 HW13
                      refine wpAnyJ_next (i := 0) (by kernel_rfl) rfl ?_
                      intro K hK
                      go_simp
                      refine hK.out _ _ (Or.inr (hS14.alloc _)) ?_
                      clear hK K
                      have hn := NI.new hS14 62
                      have hal := (G.refl w14).alloc (.cells #[.bool false, .slice none 0 0] 62)
                      have hS15 := G.trans hS14 hal
                      have HLt := HL14.out.G hal
                      have hne : w14.heap.size ≠ pl := by have := HL14.out.2.1; omega
                      generalize w14.heap.size = pb at *
                      generalize w14.alloc (.cells #[.bool false, .slice none 0 0] 62) = w15 at *
                      have HB15 : Hid (NI w10 w15 pb 0) := hn
                      have HL15 : Hid (NI w10 w15 pl ((kk : Int) * 2 ^ F)) := HLt
                      have HNE : Hid (pb ≠ pl) := hne
                      clear hn hal hS14 HL14 HLt hne
                      have HAD : Hid _ := addI_c w15 pb 0 pn 0 pl 0 0 (SV : Int) ((kk : Int) * 2 ^ F) 2 (by omega) HAB.out.1 HAB.out.2 HB15.out.2.1 (G.lt hS15 HNS.out) HL15.out.2.1 HB15.out.2.2 (IntIs.G HNI.out HNS.out hS15) HL15.out.2.2
                      refine wpAnyJ_next (i := 12) (by kernel_rfl) rfl ?_
                      intro K hK
                      go_simp
                      go_wp2_with (go_at_call 32; refine Calls.mono (P := Try.prog) HAD.out ?_; intro e w16 hx; obtain ⟨rfl, hS16, hb16, -, -⟩ := SetTo.step hS15 HB15.out hx)
                      refine hK.out _ _ (Or.inl (by decide)) ?_
                      rw [HSTE.out] at hb16
                      have HB16 : Hid (NI w10 w16 pb (ST : Int)) := hb16
                      have hG16 := G.trans hG10 hS16
                      clear hK K hx hb16 HAD HB15 HL15 hS15 hS16 HNE
                      refine wpAnyJ_next (i := 13) (by kernel_rfl) rfl ?_
                      intro K hK
                      go_simp
                      refine hK.out _ _ (Or.inl (by decide)) ?_
                      clear hK K
                      refine wpAnyJ_done (by kernel_rfl) ?_ _
                      revert HB16
                      revert hG16
                      revert p7
                      revert pl
                      revert pb
                      revert w16
                      exact L17.out
          · as_aux_lemma =>
              intro K hK
              go_simp
              go_wp2_with (go_at_call 34; refine Calls.mono (P := Try.prog) (newI_c w11 (kk : Int) HKK.out) ?_; intro e w12 hx; obtain ⟨p7, rfl, hg, h71, h72, h73⟩ := hx)
              refine hK.out _ _ (Or.inr (G.trans hS11 hg)) ?_
              clear hK K
              have hS12 := G.trans hS11 hg
              have hsz := hS11.size
              have HW12 : Hid (NI w10 w12 p7 (kk : Int)) := ⟨by omega, h72, h73⟩
              clear hg h71 h72 h73 hsz hS11
              refine wpAnyJ_two (i := 0) (j := 2) (by kernel_rfl) rfl rfl ?_ ?_
              · as_aux_lemma =>
                  intro K hK
                  go_simp
                  refine hK.out _ _ (Or.inr (hS12.alloc _)) ?_
                  clear hK K
                  have hn := NI.new hS12 62
                  have hal := (G.refl w12).alloc (.cells #[.bool false, .slice none 0 0] 62)
                  have hS13 := G.trans hS12 hal
                  have HWt := HW12.out.G hal
                  generalize w12.heap.size = pb at *
                  generalize w12.alloc (.cells #[.bool false, .slice none 0 0] 62) = w13 at *
                  have HB13 : Hid (NI w10 w13 pb 0) := hn
                  have HW13 : Hid (NI w10 w13 p7 (kk : Int)) := HWt
                  clear hn hal hS12 HW12 HWt
                  refine wpAnyJ_next (i := 2) (by kernel_rfl) rfl ?_
                  intro K hK
                  go_simp
                  refine hK.out _ _ (Or.inr (hS13.alloc _)) ?_
                  clear hK K
                  have hn := NI.new hS13 62
                  have hal := (G.refl w13).alloc (.cells #[.bool false, .slice none 0 0] 62)
                  have hS14 := G.trans hS13 hal
                  have HBt := HB13.out.G hal
                  have HWt := HW13.out.G hal
                  have hne : w13.heap.size ≠ pb := by have := HB13.out.2.1; omega
                  generalize w13.heap.size = pl at *
                  generalize w13.alloc (.cells #[.bool false, .slice none 0 0] 62) = w14 at *
                  have HL14 : Hid (NI w10 w14 pl 0) := hn
                  have HB14 : Hid (NI w10 w14 pb 0) := HBt
                  have HW14 : Hid (NI w10 w14 p7 (kk : Int)) := HWt
                  have HNE : Hid (pb ≠ pl) := hne.symm
                  clear hn hal hS13 HB13 HBt HW13 HWt hne
                  refine wpAnyJ_next (i := 11) (by kernel_rfl) rfl ?_
                  intro K hK
                  go_simp
                  have HLS : Hid _ := lshI_c w14 pl 0 p7 0 F 0 (kk : Int) 2 (by omega) (by omega) HKB.out HL14.out.2.1 HW14.out.2.1 HL14.out.2.2 HW14.out.2.2
                  go_wp2_with (go_at_call 33; refine Calls.mono (P := Try.prog) HLS.out ?_; intro e w15 hx; obtain ⟨rfl, hS15, hl, -, hkp⟩ := SetTo.step hS14 HL14.out hx)
                  have HL15 : Hid (NI w10 w15 pl ((kk : Int) * 2 ^ F)) := hl
                  have HB15 : Hid (NI w10 w15 pb 0) := hkp pb 0 HNE.out HB14.out
                  refine hK.out _ _ (Or.inr hS15) ?_
                  clear hK K hx hl hkp HLS hS14 HL14 HW14 HB14
                  have HAD : Hid _ := addI_c w15 pb 0 pn 0 pl 0 0 (SV : Int) ((kk : Int) * 2 ^ F) 2 (by omega) HAB.out.1 HAB.out.2 HB15.out.2.1 (G.lt hS15 HNS.out) HL15.out.2.1 HB15.out.2.2 (IntIs.G HNI.out HNS.out hS15) HL15.out.2.2
                  refine wpAnyJ_next (i := 12) (by kernel_rfl) rfl ?_
                  intro K hK
                  go_simp
                  go_wp2_with (go_at_call 32; refine Calls.mono (P := Try.prog) HAD.out ?_; intro e w16 hx; obtain ⟨rfl, hS16, hb16, -, -⟩ := SetTo.step hS15 HB15.out hx)
                  refine hK.out _ _ (Or.inl (by decide)) ?_
                  rw [HSTE.out] at hb16
                  have HB16 : Hid (NI w10 w16 pb (ST : Int)) := hb16
                  have hG16 := G.trans hG10 hS16
                  clear hK K hx hb16 HAD HB15 HL15 hS15 hS16 HNE
                  refine wpAnyJ_next (i := 13) (by kernel_rfl) rfl ?_
                  intro K hK
                  go_simp
                  refine hK.out _ _ (Or.inl (by decide)) ?_
                  clear hK K
                  refine wpAnyJ_done (by kernel_rfl) ?_ _
                  revert HB16
                  revert hG16
                  revert p7
                  revert pl
                  revert pb
                  revert w16
                  exact L17.out
              · as_aux_lemma =>
                  intro K hK
                  go_simp
                  refine hK.out _ _ (Or.inr (hS12.alloc _)) ?_
                  clear hK K
                  have hn := NI.new hS12 62
                  have hal := (G.refl w12).alloc (.cells #[.bool false, .slice none 0 0] 62)
                  have hS13 := G.trans hS12 hal
                  have HWt := HW12.out.G hal
                  generalize w12.heap.size = pl at *
                  generalize w12.alloc (.cells #[.bool false, .slice none 0 0] 62) = w13 at *
                  have HL13 : Hid (NI w10 w13 pl 0) := hn
                  have HW13 : Hid (NI w10 w13 p7 (kk : Int)) := HWt
                  clear hn hal hS12 HW12 HWt
                  refine wpAnyJ_two (i := 0) (j := 11) (by kernel_rfl) rfl rfl ?_ ?_
                  · as_aux_lemma =>
                      intro K hK
                      go_simp
                      refine hK.out _ _ (Or.inr (hS13.alloc _)) ?_
                      clear hK K
                      have hn := NI.new hS13 62
                      have hal := (G.refl w13).alloc (.cells #[.bool false, .slice none 0 0] 62)
                      have hS14 := G.trans hS13 hal
                      have HLt := HL13.out.G hal
                      have HWt := HW13.out.G hal
                      have hne : w13.heap.size ≠ pl := by have := HL13.out.2.1; omega
                      generalize w13.heap.size = pb at *
                      generalize w13.alloc (.cells #[.bool false, .slice none 0 0] 62) = w14 at *
                      have HB14 : Hid (NI w10 w14 pb 0) := hn
                      have HL14 : Hid (NI w10 w14 pl 0) := HLt
                      have HW14 : Hid (NI w10 w14 p7 (kk : Int)) := HWt
                      have HNE : Hid (pb ≠ pl) := hne
                      clear hn hal hS13 HL13 HLt HW13 HWt hne
                      refine wpAnyJ_next (i := 11) (by kernel_rfl) rfl ?_
                      intro K hK
                      go_simp
                      have HLS : Hid _ := lshI_c w14 pl 0 p7 0 F 0 (kk : Int) 2 (by omega) (by omega) HKB.out HL14.out.2.1 HW14.out.2.1 HL14.out.2.2 HW14.out.2.2
                      go_wp2_with (go_at_call 33; refine Calls.mono (P := Try.prog) HLS.out ?_; intro e w15 hx; obtain ⟨rfl, hS15, hl, -, hkp⟩ := SetTo.step hS14 HL14.out hx)
                      have HL15 : Hid (NI w10 w15 pl ((kk : Int) * 2 ^ F)) := hl
                      have HB15 : Hid (NI w10 w15 pb 0) := hkp pb 0 HNE.out HB14.out
                      refine hK.out _ _ (Or.inr hS15) ?_
                      clear hK K hx hl hkp HLS hS14 HL14 HW14 HB14
                      have HAD : Hid _ := addI_c w15 pb 0 pn 0 pl 0 0 (SV : Int) ((kk : Int) * 2 ^ F) 2 (by omega) HAB.out.1 HAB.out.2 HB15.out.2.1 (G.lt hS15 HNS.out) HL15.out.2.1 HB15.out.2.2 (IntIs.G HNI.out HNS.out hS15) HL15.out.2.2
                      refine wpAnyJ_next (i := 12) (by kernel_rfl) rfl ?_
                      intro K hK
                      go_simp
                      go_wp2_with (go_at_call 32; refine Calls.mono (P := Try.prog) HAD.out ?_; intro e w16 hx; obtain ⟨rfl, hS16, hb16, -, -⟩ := SetTo.step hS15 HB15.out hx)
                      refine hK.out _ _ (Or.inl (by decide)) ?_
                      rw [HSTE.out] at hb16
                      have HB16 : Hid (NI w10 w16 pb (ST : Int)) := hb16
                      have hG16 := G.trans hG10 hS16
                      clear hK K hx hb16 HAD HB15 HL15 hS15 hS16 HNE
                      refine wpAnyJ_next (i := 13) (by kernel_rfl) rfl ?_
                      intro K hK
                      go_simp
                      refine hK.out _ _ (Or.inl (by decide)) ?_
                      clear hK K
                      refine wpAnyJ_done (by kernel_rfl) ?_ _
                      revert HB16
                      revert hG16
                      revert p7
                      revert pl
                      revert pb
                      revert w16
                      exact L17.out
                  · as_aux_lemma =>
                      intro K hK
                      go_simp
                      have HLS : Hid _ := lshI_c w13 pl 0 p7 0 F 0 (kk : Int) 2 (by omega) (by omega) HKB.out HL13.out.2.1 HW13.out.2.1 HL13.out.2.2 HW13.out.2.2
                      go_wp2_with (go_at_call 33; refine Calls.mono (P := Try.prog) HLS.out ?_; intro e w14 hx; obtain ⟨rfl, hS14, hl, -, hkp⟩ := SetTo.step hS13 HL13.out hx)
                      have HL14 : Hid (NI w10 w14 pl ((kk : Int) * 2 ^ F)) := hl
                      refine hK.out _ _ (Or.inr hS14) ?_
                      clear hK K hx hl hkp HLS hS13 HL13 HW13
                      refine wpAnyJ_next (i := 0) (by kernel_rfl) rfl ?_
                      intro K hK
                      go_simp
                      refine hK.out _ _ (Or.inr (hS14.alloc _)) ?_
                      clear hK K
                      have hn := NI.new hS14 62
                      have hal := (G.refl w14).alloc (.cells #[.bool false, .slice none 0 0] 62)
                      have hS15 := G.trans hS14 hal
                      have HLt := HL14.out.G hal
                      have hne : w14.heap.size ≠ pl := by have := HL14.out.2.1; omega
                      generalize w14.heap.size = pb at *
                      generalize w14.alloc (.cells #[.bool false, .slice none 0 0] 62) = w15 at *
                      have HB15 : Hid (NI w10 w15 pb 0) := hn
                      have HL15 : Hid (NI w10 w15 pl ((kk : Int) * 2 ^ F)) := HLt
                      have HNE : Hid (pb ≠ pl) := hne
                      clear hn hal hS14 HL14 HLt hne
                      have HAD : Hid _ := addI_c w15 pb 0 pn 0 pl 0 0 (SV : Int) ((kk : Int) * 2 ^ F) 2 (by omega) HAB.out.1 HAB.out.2 HB15.out.2.1 (G.lt hS15 HNS.out) HL15.out.2.1 HB15.out.2.2 (IntIs.G HNI.out HNS.out hS15) HL15.out.2.2
                      refine wpAnyJ_next (i := 12) (by kernel_rfl) rfl ?_
                      intro K hK
                      go_simp
                      go_wp2_with (go_at_call 32; refine Calls.mono (P := Try.prog) HAD.out ?_; intro e w16 hx; obtain ⟨rfl, hS16, hb16, -, -⟩ := SetTo.step hS15 HB15.out hx)
                      refine hK.out _ _ (Or.inl (by decide)) ?_
                      rw [HSTE.out] at hb16
                      have HB16 : Hid (NI w10 w16 pb (ST : Int)) := hb16
                      have hG16 := G.trans hG10 hS16
                      clear hK K hx hb16 HAD HB15 HL15 hS15 hS16 HNE
                      refine wpAnyJ_next (i := 13) (by kernel_rfl) rfl ?_
                      intro K hK
                      go_simp
                      refine hK.out _ _ (Or.inl (by decide)) ?_
                      clear hK K
                      refine wpAnyJ_done (by kernel_rfl) ?_ _
                      revert HB16
                      revert hG16
                      revert p7
                      revert pl
                      revert pb
                      revert w16
                      exact L17.out
        · skip
          refine Later.mk ?_
          intro w16 pb pl p7 hG16 HB16
          clear hG10 HAB HNI HNS hps10 hd13 hd14
          go_wp2_with fail
          have hc0 := NI.new hG16 62
          have hal := (G.refl w16).alloc (.cells #[.bool false, .slice none 0 0] 62)
          have hG17 := G.trans hG16 hal
          have hbs : pb ≠ w16.heap.size := by have := HB16.out.2.1; omega
          have hb17 : NI w10 _ pb (ST : Int) := HB16.out.G hal
          generalize w16.heap.size = pc at *
          generalize w16.alloc (.cells #[.bool false, .slice none 0 0] 62) = w17 at *
          have HC17 : Hid (NI w w17 pc 0) := hc0
          have HB17 : Hid (pb < w17.heap.size ∧ IntIs w17 pb 0 (ST : Int)) := ⟨hb17.2.1, hb17.2.2⟩
          clear hc0 hal hb17 HB16 hG16
          have HSU : Hid _ := setU_c w17 pc 0 I 0 HI64.out HC17.out.2.1 HC17.out.2.2
          refine Calls.mono (P := Try.prog) HSU.out ?_
          intro e w18 hx
          have hk18 := SetTo.keep HC17.out.2.2 hx HB17.out.2 HB17.out.1 (Or.inl hbs)
          have hs18 := Nat.lt_of_lt_of_le HB17.out.1 (SetTo.size hx)
          obtain ⟨rfl, hG18, hc18, -, -⟩ := SetTo.step hG17 HC17.out hx
          have HC18 : Hid (NI w w18 pc (I : Int)) := hc18
          have HB18 : Hid (pb < w18.heap.size ∧ IntIs w18 pb 0 (ST : Int)) := ⟨hs18, hk18⟩
          clear hx hk18 hs18 hc18 HSU HC17 HB17 hG17 hbs
          go_wp2_with fail
          have HCM : Hid _ := cmpI_c w18 pb 0 pc 0 (ST : Int) (I : Int) 2 (by omega) HST64.out HI64i.out HB18.out.1 HC18.out.2.1 HB18.out.2 HC18.out.2.2
          refine Calls.mono (P := Try.prog) HCM.out ?_
          rintro e w19 ⟨rfl, hg19⟩
          have hG19 := G.trans hG18 hg19
          have hb19 := IntIs.G HB18.out.2 HB18.out.1 hg19
          have HB19 : Hid (IntIs w19 pb 0 (ST : Int)) := hb19
          clear hg19 hb19 HB18 HC18 HCM hG18
          by_cases hge : I ≤ ST
          · have hcv : decide ((0 : Int) ≤ cmpI (ST : Int) (I : Int)) = true := by unfold cmpI; rw [if_neg (by omega)]; split <;> rfl
            have hres := HSTP.out.1 (by rw [← HSTD.out]; exact hge)
            generalize cmpI (ST : Int) (I : Int) = cv at *
            have hor := HOR.out I (Nat.le_refl _)
            clear hge
            go_wp2_with fail
            go_ret
            exact ⟨ret_int (by rw [hres]; first | done | rfl | simp), hG19⟩
          · have hcv : decide ((0 : Int) ≤ cmpI (ST : Int) (I : Int)) = false := by unfold cmpI; rw [if_pos (by omega)]; rfl
            have hres := HSTP.out.2 (by rw [← HSTD.out]; exact hge)
            rw [← HSTD.out] at hres
            generalize cmpI (ST : Int) (I : Int) = cv at *
            have HUI : Hid _ := uint64I_c w19 pb 0 (ST : Int) HST64u.out HB19.out
            rw [Int.natAbs_natCast] at HUI
            have hor := HOR.out ST (by omega)
            clear hge
            go_wp2_with fail
            refine Calls.mono (P := Try.prog) HUI.out ?_
            rintro e w20 ⟨rfl, hg20⟩
            have hG20 := G.trans hG19 hg20
            go_wp2_with fail
            go_ret
            exact ⟨ret_int (by rw [hres]; first | done | rfl | simp), hG20⟩
    · obtain ⟨PL, hPL⟩ : ∃ PL, PL = T := ⟨_, rfl⟩
      have HPL : Hid (PL = max T (1 - bi)) := by show PL = max T (1 - bi); omega
      have ht1 : decide (T < 1 - bi) = false := decide_eq_false htb
      have hp1 : -130 ≤ PL := by omega
      have hp2 : PL ≤ 1030 := by omega
      have hp3 : 0 ≤ PL + bi - 1 := by omega
      go_wp2_with fail
      rw [← hPL]
      clear ht1 htb hPL
      obtain ⟨A0, B0, ya, yb, NN, DD, hya, hyb, hA0, hB0, hbd, hnd, hnb, hsv⟩ := q_facts (P := PL - F) HMG.out.1 HMG.out.2.1 HMG.out.2.2.1 (by omega) (by omega) KB hKB
      have HRT : Hid _ := HKR.out
      have HWR : Hid (IntKind.i64.wrap (PL - F) = PL - F) := by show IntKind.i64.wrap (PL - F) = PL - F; exact IntWalk.i64_in _ (by omega)
      have HPW : Hid _ := HKP.out (PL - F) (by omega) (by omega)
      rw [hA0, hB0] at HRT
      rw [← hya, ← hyb] at HPW
      have hsl : shV mag (e0 - (PL - F)) ≤ 2 ^ (F + 1) := shV_le2 mag F _ (by have h1 := HMG.out.2.2.2.2; have h2 := HPL.out; omega)
      rw [← HMG.out.2.2.2.1] at hsv
      obtain ⟨SV, hSV⟩ : ∃ SV, SV = shV mag (e0 - (PL - F)) := ⟨_, rfl⟩
      rw [← hSV] at hsv hsl
      have HSV : Hid (roundQ NN DD = SV) := hsv
      have HSVE : Hid (SV = shV mag (e0 - (PL - F))) := hSV
      have HSL : Hid (SV ≤ 2 ^ (F + 1)) := hsl
      have HBD : Hid _ := hbd
      have HND : Hid _ := hnd
      have HNB : Hid (NN < 2 ^ (32 * (2 * KB)) ∧ DD < 2 ^ (32 * (2 * KB)) ∧ 0 < DD) := hnb
      clear hya hyb hA0 hB0 hbd hnd hnb hsv hSV hsl HKR HKP
      apply share
      · intro L15
        refine region_J 8 (G w4) (by kernel_rfl) (by first | exact (G.refl _).drew | exact G.drew (by assumption)) ?_
        intro hSh
        refine wpAnyJ_take (i := 1) (v := ?_) rfl (by kernel_rfl) (by kernel_rfl) (by kernel_rfl) (by kernel_rfl) (by kernel_rfl) (by kernel_rfl) (by kernel_rfl) (fun _ _ _ h => h) (Or.inl ⟨by rfl, ?_⟩) (by assumption) ?_
        rotate_left
        · intro wq hwq
          have hq79 := G.cell (p := ⟨pf, 0, none⟩) (v := .int .i64 E) hwq (by first | assumption | (simp; done) | (simp; omega) | omega) (by assumption)
          have hq80 := G.cell (p := ⟨pf, 1, none⟩) (v := .int .i64 F) hwq (by first | assumption | (simp; done) | (simp; omega) | omega) (by assumption)
          first | (go_simp; done) | (go_simp; with_reducible rfl)
        try simp only [Act.put, List.setIfInBounds_toArray, List.set_cons_zero, List.set_cons_succ]
        refine wpAnyJ_take (i := 3) (v := ?_) rfl (by kernel_rfl) (by kernel_rfl) (by kernel_rfl) (by kernel_rfl) (by kernel_rfl) (by kernel_rfl) (by kernel_rfl) (fun _ _ _ h => h) (Or.inl ⟨by rfl, ?_⟩) (by assumption) ?_
        rotate_left
        · intro wq hwq
          have hq81 := G.cell (p := ⟨pf, 0, none⟩) (v := .int .i64 E) hwq (by first | assumption | (simp; done) | (simp; omega) | omega) (by assumption)
          have hq82 := G.cell (p := ⟨pf, 1, none⟩) (v := .int .i64 F) hwq (by first | assumption | (simp; done) | (simp; omega) | omega) (by assumption)
          first | (go_simp; done) | (go_simp; with_reducible rfl)
        try simp only [Act.put, List.setIfInBounds_toArray, List.set_cons_zero, List.set_cons_succ]
        refine wpAnyJ_take (i := 4) (v := ?_) rfl (by kernel_rfl) (by kernel_rfl) (by kernel_rfl) (by kernel_rfl) (by kernel_rfl) (by kernel_rfl) (by kernel_rfl) (fun _ _ _ h => h) (Or.inl ⟨by rfl, ?_⟩) (by assumption) ?_
        rotate_left
        · intro wq hwq
          have hq83 := G.cell (p := ⟨pf, 0, none⟩) (v := .int .i64 E) hwq (by first | assumption | (simp; done) | (simp; omega) | omega) (by assumption)
          have hq84 := G.cell (p := ⟨pf, 1, none⟩) (v := .int .i64 F) hwq (by first | assumption | (simp; done) | (simp; omega) | omega) (by assumption)
          first | (go_simp; done) | (go_simp; with_reducible rfl)
        try simp only [Act.put, List.setIfInBounds_toArray, List.set_cons_zero, List.set_cons_succ]
        refine wpAnyJ_take (i := 5) (v := ?_) rfl (by kernel_rfl) (by kernel_rfl) (by kernel_rfl) (by kernel_rfl) (by kernel_rfl) (by kernel_rfl) (by kernel_rfl) (fun _ _ _ h => h) (Or.inl ⟨by rfl, ?_⟩) (by assumption) ?_
        rotate_left
        · intro wq hwq
          have hq85 := G.cell (p := ⟨pf, 0, none⟩) (v := .int .i64 E) hwq (by first | assumption | (simp; done) | (simp; omega) | omega) (by assumption)
          have hq86 := G.cell (p := ⟨pf, 1, none⟩) (v := .int .i64 F) hwq (by first | assumption | (simp; done) | (simp; omega) | omega) (by assumption)
          first | (go_simp; done) | (go_simp; with_reducible rfl)
        try simp only [Act.put, List.setIfInBounds_toArray, List.set_cons_zero, List.set_cons_succ]
        refine wpAnyJ_take (i := 6) (v := ?_) rfl (by kernel_rfl) (by kernel_rfl) (by kernel_rfl) (by kernel_rfl) (by kernel_rfl) (by kernel_rfl) (by kernel_rfl) (fun _ _ _ h => h) (Or.inl ⟨by rfl, ?_⟩) (by assumption) ?_
        rotate_left
        · intro wq hwq
          have hq87 := G.cell (p := ⟨pf, 0, none⟩) (v := .int .i64 E) hwq (by first | assumption | (simp; done) | (simp; omega) | omega) (by assumption)
          have hq88 := G.cell (p := ⟨pf, 1, none⟩) (v := .int .i64 F) hwq (by first | assumption | (simp; done) | (simp; omega) | omega) (by assumption)
          first | (go_simp; done) | (go_simp; with_reducible rfl)
        try simp only [Act.put, List.setIfInBounds_toArray, List.set_cons_zero, List.set_cons_succ]
        show wpAnyJ _ _ _ _ _ _ _ _ _ w4.drew
        rw [HWR.out]
        have hS5 := hSh
        generalize w4.drew = w5 at *
        clear hSh
        refine wpAnyJ_two (i := 0) (j := 2) (by kernel_rfl) rfl rfl ?_ ?_
        · skip
          intro K hK
          go_simp
          refine hK.out _ _ (Or.inr (hS5.alloc _)) ?_
          clear hK K
          have hZ6 := RatZ.new w5 64
          have hS6 := hS5.alloc (.cells #[.bool false, .slice none 0 0, .bool false, .slice none 0 0] 64)
          have hzs6 : w5.heap.size < (w5.alloc (.cells #[.bool false, .slice none 0 0, .bool false, .slice none 0 0] 64)).heap.size := by simp
          obtain ⟨pq, hpq⟩ : ∃ pq, pq = w5.heap.size := ⟨_, rfl⟩
          rw [← hpq] at hZ6 hzs6 ⊢
          have hpq0 : w4.heap.size ≤ pq := by have := hS5.size; omega
          clear hpq
          generalize w5.alloc (.cells #[.bool false, .slice none 0 0, .bool false, .slice none 0 0] 64) = w6 at *
          refine wpAnyJ_next (i := 2) (by kernel_rfl) rfl ?_
          intro K hK
          go_simp
          go_wp2_with (go_at_call 29; refine Calls.mono (P := Try.prog) (HRT.out w6) ?_; intro e w7 hx; obtain ⟨p1, rfl, hg7, -, hrs7, hR7⟩ := hx)
          refine hK.out _ _ (Or.inr (G.trans hS6 hg7)) ?_
          clear hK K
          have hS7 := G.trans hS6 hg7
          have hZ7 := hZ6.G hzs6 hg7
          have hzs7 := G.lt hg7 hzs6
          clear hg7
          refine wpAnyJ_next (i := 7) (by kernel_rfl) rfl ?_
          intro K hK
          go_simp
          go_wp2_with (go_at_call 30; refine Calls.mono (P := Try.prog) (HPW.out w7) ?_; intro e w8 hx; obtain ⟨p2, rfl, hg8, -, hks8, hP8⟩ := hx)
          refine hK.out _ _ (Or.inr (G.trans hS7 hg8)) ?_
          clear hK K
          have hS8 := G.trans hS7 hg8
          have hZ8 := hZ7.G hzs7 hg8
          have hzs8 := G.lt hg8 hzs7
          have hR8 := hR7.G hrs7 hg8
          have hrs8 := G.lt hg8 hrs7
          clear hg8
          have HQ : Hid _ := quoR_c w8 pq p1 p2 0 0 A0 ya B0 yb KB (by omega) HBD.out.1 HBD.out.2.1 HBD.out.2.2.1 HBD.out.2.2.2.1 HBD.out.2.2.2.2.1 HBD.out.2.2.2.2.2.1 HBD.out.2.2.2.2.2.2 hzs8 hrs8 hks8 hZ8.rat hR8 hP8
          rw [← HND.out.1, ← HND.out.2] at HQ
          have hq0 := Nat.le_trans hG4.size hpq0
          have hG8 := G.trans hG4 hS8
          have hd9 := hS8.cell hps4 hd7
          have hd10 := hS8.cell hps4 hd8
          have hps8 := G.lt hS8 hps4
          clear hR8 hP8 hZ8 hrs8 hks8
          try clear hR7
          try clear hR6
          try clear hR5
          try clear hP7
          try clear hZ7
          try clear hZ6
          try clear hrs7
          try clear hrs6
          try clear hks7
          try clear hzs7
          try clear hzs6
          try clear hS7
          try clear hS6
          clear hS5
          refine wpAnyJ_next (i := 8) (by kernel_rfl) rfl ?_
          intro K hK
          go_simp
          go_wp2_with (go_at_call 28; refine Calls.mono (P := Try.prog) HQ.out ?_; intro e w9 hx; obtain ⟨rfl, hg9, hR9⟩ := hx)
          refine hK.out _ _ (Or.inl (by decide)) ?_
          clear hK K
          have hG9 := GX.fresh hG8 hg9 hq0
          have hne : pf ≠ pq := by omega
          have hb9 := hg9.block pf hps8 (fun e => hne (Option.some.inj e))
          have hd11 := (World.cell?_of_block hb9).trans hd9
          have hd12 := (World.cell?_of_block hb9).trans hd10
          have hps9 := Nat.lt_of_lt_of_le hps8 hg9.size
          have hqs9 := Nat.lt_of_lt_of_le hzs8 hg9.size
          refine wpAnyJ_next (i := 9) (by kernel_rfl) rfl ?_
          intro K hK
          go_simp
          refine hK.out _ _ (Or.inl (by decide)) ?_
          clear hK K
          refine wpAnyJ_done (by kernel_rfl) ?_ _
          clear hg9 hb9 hd9 hd10 hps8 hzs8 hS8 hG8 hq0 hpq0 hne HQ
          revert hd12
          revert hd11
          revert hps9
          revert hqs9
          revert hR9
          revert hG9
          revert p2
          revert p1
          revert pq
          revert w9
          exact L15.out
        · as_aux_lemma =>
            intro K hK
            go_simp
            go_wp2_with (go_at_call 29; refine Calls.mono (P := Try.prog) (HRT.out w5) ?_; intro e w6 hx; obtain ⟨p1, rfl, hg6, -, hrs6, hR6⟩ := hx)
            refine hK.out _ _ (Or.inr (G.trans hS5 hg6)) ?_
            clear hK K
            have hS6 := G.trans hS5 hg6
            clear hg6
            refine wpAnyJ_two (i := 0) (j := 7) (by kernel_rfl) rfl rfl ?_ ?_
            · as_aux_lemma =>
                intro K hK
                go_simp
                refine hK.out _ _ (Or.inr (hS6.alloc _)) ?_
                clear hK K
                have hZ7 := RatZ.new w6 64
                have hS7 := hS6.alloc (.cells #[.bool false, .slice none 0 0, .bool false, .slice none 0 0] 64)
                have hzs7 : w6.heap.size < (w6.alloc (.cells #[.bool false, .slice none 0 0, .bool false, .slice none 0 0] 64)).heap.size := by simp
                obtain ⟨pq, hpq⟩ : ∃ pq, pq = w6.heap.size := ⟨_, rfl⟩
                rw [← hpq] at hZ7 hzs7 ⊢
                have hpq0 : w4.heap.size ≤ pq := by have := hS6.size; omega
                have hR7 := hR6.G hrs6 ((G.refl w6).alloc (.cells #[.bool false, .slice none 0 0, .bool false, .slice none 0 0] 64))
                have hrs7 := G.lt ((G.refl w6).alloc (.cells #[.bool false, .slice none 0 0, .bool false, .slice none 0 0] 64)) hrs6
                clear hpq
                generalize w6.alloc (.cells #[.bool false, .slice none 0 0, .bool false, .slice none 0 0] 64) = w7 at *
                refine wpAnyJ_next (i := 7) (by kernel_rfl) rfl ?_
                intro K hK
                go_simp
                go_wp2_with (go_at_call 30; refine Calls.mono (P := Try.prog) (HPW.out w7) ?_; intro e w8 hx; obtain ⟨p2, rfl, hg8, -, hks8, hP8⟩ := hx)
                refine hK.out _ _ (Or.inr (G.trans hS7 hg8)) ?_
                clear hK K
                have hS8 := G.trans hS7 hg8
                have hZ8 := hZ7.G hzs7 hg8
                have hzs8 := G.lt hg8 hzs7
                have hR8 := hR7.G hrs7 hg8
                have hrs8 := G.lt hg8 hrs7
                clear hg8
                have HQ : Hid _ := quoR_c w8 pq p1 p2 0 0 A0 ya B0 yb KB (by omega) HBD.out.1 HBD.out.2.1 HBD.out.2.2.1 HBD.out.2.2.2.1 HBD.out.2.2.2.2.1 HBD.out.2.2.2.2.2.1 HBD.out.2.2.2.2.2.2 hzs8 hrs8 hks8 hZ8.rat hR8 hP8
                rw [← HND.out.1, ← HND.out.2] at HQ
                have hq0 := Nat.le_trans hG4.size hpq0
                have hG8 := G.trans hG4 hS8
                have hd9 := hS8.cell hps4 hd7
                have hd10 := hS8.cell hps4 hd8
                have hps8 := G.lt hS8 hps4
                clear hR8 hP8 hZ8 hrs8 hks8
                try clear hR7
                try clear hR6
                try clear hR5
                try clear hP7
                try clear hZ7
                try clear hZ6
                try clear hrs7
                try clear hrs6
                try clear hks7
                try clear hzs7
                try clear hzs6
                try clear hS7
                try clear hS6
                clear hS5
                refine wpAnyJ_next (i := 8) (by kernel_rfl) rfl ?_
                intro K hK
                go_simp
                go_wp2_with (go_at_call 28; refine Calls.mono (P := Try.prog) HQ.out ?_; intro e w9 hx; obtain ⟨rfl, hg9, hR9⟩ := hx)
                refine hK.out _ _ (Or.inl (by decide)) ?_
                clear hK K
                have hG9 := GX.fresh hG8 hg9 hq0
                have hne : pf ≠ pq := by omega
                have hb9 := hg9.block pf hps8 (fun e => hne (Option.some.inj e))
                have hd11 := (World.cell?_of_block hb9).trans hd9
                have hd12 := (World.cell?_of_block hb9).trans hd10
                have hps9 := Nat.lt_of_lt_of_le hps8 hg9.size
                have hqs9 := Nat.lt_of_lt_of_le hzs8 hg9.size
                refine wpAnyJ_next (i := 9) (by kernel_rfl) rfl ?_
                intro K hK
                go_simp
                refine hK.out _ _ (Or.inl (by decide)) ?_
                clear hK K
                refine wpAnyJ_done (by kernel_rfl) ?_ _
                clear hg9 hb9 hd9 hd10 hps8 hzs8 hS8 hG8 hq0 hpq0 hne HQ
                revert hd12
                revert hd11
                revert hps9
                revert hqs9
                revert hR9
                revert hG9
                revert p2
                revert p1
                revert pq
                revert w9
                exact L15.out
            · as_aux_lemma =>
                intro K hK
                go_simp
                go_wp2_with (go_at_call 30; refine Calls.mono (P := Try.prog) (HPW.out w6) ?_; intro e w7 hx; obtain ⟨p2, rfl, hg7, -, hks7, hP7⟩ := hx)
                refine hK.out _ _ (Or.inr (G.trans hS6 hg7)) ?_
                clear hK K
                have hS7 := G.trans hS6 hg7
                have hR7 := hR6.G hrs6 hg7
                have hrs7 := G.lt hg7 hrs6
                clear hg7
                refine wpAnyJ_next (i := 0) (by kernel_rfl) rfl ?_
                intro K hK
                go_simp
                refine hK.out _ _ (Or.inr (hS7.alloc _)) ?_
                clear hK K
                have hZ8 := RatZ.new w7 64
                have hS8 := hS7.alloc (.cells #[.bool false, .slice none 0 0, .bool false, .slice none 0 0] 64)
                have hzs8 : w7.heap.size < (w7.alloc (.cells #[.bool false, .slice none 0 0, .bool false, .slice none 0 0] 64)).heap.size := by simp
                obtain ⟨pq, hpq⟩ : ∃ pq, pq = w7.heap.size := ⟨_, rfl⟩
                rw [← hpq] at hZ8 hzs8 ⊢
                have hpq0 : w4.heap.size ≤ pq := by have := hS7.size; omega
                have hR8 := hR7.G hrs7 ((G.refl w7).alloc (.cells #[.bool false, .slice none 0 0, .bool false, .slice none 0 0] 64))
                have hrs8 := G.lt ((G.refl w7).alloc (.cells #[.bool false, .slice none 0 0, .bool false, .slice none 0 0] 64)) hrs7
                have hP8 := hP7.G hks7 ((G.refl w7).alloc (.cells #[.bool false, .slice none 0 0, .bool false, .slice none 0 0] 64))
                have hks8 := G.lt ((G.refl w7).alloc (.cells #[.bool false, .slice none 0 0, .bool false, .slice none 0 0] 64)) hks7
                clear hpq
                generalize w7.alloc (.cells #[.bool false, .slice none 0 0, .bool false, .slice none 0 0] 64) = w8 at *
                have HQ : Hid _ := quoR_c w8 pq p1 p2 0 0 A0 ya B0 yb KB (by omega) HBD.out.1 HBD.out.2.1 HBD.out.2.2.1 HBD.out.2.2.2.1 HBD.out.2.2.2.2.1 HBD.out.2.2.2.2.2.1 HBD.out.2.2.2.2.2.2 hzs8 hrs8 hks8 hZ8.rat hR8 hP8
                rw [← HND.out.1, ← HND.out.2] at HQ
                have hq0 := Nat.le_trans hG4.size hpq0
                have hG8 := G.trans hG4 hS8
                have hd9 := hS8.cell hps4 hd7
                have hd10 := hS8.cell hps4 hd8
                have hps8 := G.lt hS8 hps4
                clear hR8 hP8 hZ8 hrs8 hks8
                try clear hR7
                try clear hR6
                try clear hR5
                try clear hP7
                try clear hZ7
                try clear hZ6
                try clear hrs7
                try clear hrs6
                try clear hks7
                try clear hzs7
                try clear hzs6
                try clear hS7
                try clear hS6
                clear hS5
                refine wpAnyJ_next (i := 8) (by kernel_rfl) rfl ?_
                intro K hK
                go_simp
                go_wp2_with (go_at_call 28; refine Calls.mono (P := Try.prog) HQ.out ?_; intro e w9 hx; obtain ⟨rfl, hg9, hR9⟩ := hx)
                refine hK.out _ _ (Or.inl (by decide)) ?_
                clear hK K
                have hG9 := GX.fresh hG8 hg9 hq0
                have hne : pf ≠ pq := by omega
                have hb9 := hg9.block pf hps8 (fun e => hne (Option.some.inj e))
                have hd11 := (World.cell?_of_block hb9).trans hd9
                have hd12 := (World.cell?_of_block hb9).trans hd10
                have hps9 := Nat.lt_of_lt_of_le hps8 hg9.size
                have hqs9 := Nat.lt_of_lt_of_le hzs8 hg9.size
                refine wpAnyJ_next (i := 9) (by kernel_rfl) rfl ?_
                intro K hK
                go_simp
                refine hK.out _ _ (Or.inl (by decide)) ?_
                clear hK K
                refine wpAnyJ_done (by kernel_rfl) ?_ _
                clear hg9 hb9 hd9 hd10 hps8 hzs8 hS8 hG8 hq0 hpq0 hne HQ
                revert hd12
                revert hd11
                revert hps9
                revert hqs9
                revert hR9
                revert hG9
                revert p2
                revert p1
                revert pq
                revert w9
                exact L15.out
      · skip
        refine Later.mk ?_
        intro w9 pq p1 p2 hG9 hR9 hqs9 hps9 hd11 hd12
        have HNI : Hid _ := nearInt_c w9 pq NN DD (2 * KB) (by omega) HNB.out.1 HNB.out.2.1 HNB.out.2.2 hqs9 hR9
        rw [HSV.out] at HNI
        clear hR9 hqs9 HNB HSV HBD HND HRT HPW HWR hd7 hd8 hG4 hps4
        go_wp2_with fail
        refine Calls.mono (P := Try.prog) HNI.out ?_
        intro e w10 hni
        obtain ⟨pn, rfl, hg10, hpn1, hpn2, hpni⟩ := hni
        have hG10 := G.trans hG9 hg10
        have hd13 := hg10.cell hps9 hd11
        have hd14 := hg10.cell hps9 hd12
        have hps10 := G.lt hg10 hps9
        clear hg10 hG9 hd11 hd12 hps9 hpn1 HNI
        go_wp2_with fail
        have HNS : Hid (pn < w10.heap.size) := hpn2
        have HNI : Hid (IntIs w10 pn 0 (SV : Int)) := hpni
        clear hpn2 hpni
        obtain ⟨kk, hkk⟩ : ∃ kk : Nat, (kk : Int) = PL + bi - 1 := ⟨(PL + bi - 1).toNat, by omega⟩
        have hkb : kk ≤ 2000 := by omega
        have HW1 : Hid (IntKind.i64.wrap (IntKind.i64.wrap (PL + bi) - 1) = (kk : Int)) := by
          show IntKind.i64.wrap (IntKind.i64.wrap (PL + bi) - 1) = (kk : Int)
          rw [IntWalk.i64_in (PL + bi) (by omega), IntWalk.i64_in _ (by omega), hkk]
        have HW2 : Hid (IntKind.u64.wrap (F : Int) = (F : Int)) := IntWalk.u64_in _ (by omega)
        have HKK : Hid (-9223372036854775808 ≤ (kk : Int) ∧ (kk : Int) ≤ 9223372036854775807) := ⟨by omega, by omega⟩
        have HKB : Hid ((kk : Int).natAbs < 2 ^ (32 * 2)) := by show (kk : Int).natAbs < 2 ^ (32 * 2); omega
        have hF23 : 2 ^ F ≤ 2 ^ 23 := pow_le (by omega)
        have hF24 : 2 ^ (F + 1) ≤ 2 ^ 24 := pow_le (by omega)
        have hkF : kk * 2 ^ F ≤ 2000 * 2 ^ 23 := Nat.mul_le_mul hkb hF23
        have hsl := HSL.out
        obtain ⟨ST, hST⟩ : ∃ ST, ST = SV + kk * 2 ^ F := ⟨_, rfl⟩
        have hkFi : (kk : Int) * 2 ^ F = ((kk * 2 ^ F : Nat) : Int) := by rw [FT.ipow]; push_cast; rfl
        have HSTE : Hid ((SV : Int) + (kk : Int) * 2 ^ F = (ST : Int)) := by show (SV : Int) + (kk : Int) * 2 ^ F = (ST : Int); rw [hkFi, hST]; push_cast; rfl
        have HAB : Hid ((SV : Int).natAbs < 2 ^ (32 * 2) ∧ ((kk : Int) * 2 ^ F).natAbs < 2 ^ (32 * 2)) := ⟨by rw [Int.natAbs_natCast]; omega, by rw [hkFi, Int.natAbs_natCast]; omega⟩
        have HST64 : Hid ((ST : Int).natAbs < 2 ^ (32 * 2)) := by show (ST : Int).natAbs < 2 ^ (32 * 2); rw [Int.natAbs_natCast]; omega
        have HST64u : Hid ((ST : Int).natAbs < 2 ^ 64) := by show (ST : Int).natAbs < 2 ^ 64; rw [Int.natAbs_natCast]; omega
        have HI64 : Hid (I < 2 ^ 64) := by show I < 2 ^ 64; have := HIB.out; omega
        have HI64i : Hid ((I : Int).natAbs < 2 ^ (32 * 2)) := by show (I : Int).natAbs < 2 ^ (32 * 2); rw [Int.natAbs_natCast]; have := HIB.out; omega
        have HSTD : Hid (ST = stepsV E F mag e0) := by
          show ST = stepsV E F mag e0
          have h1 : placeV E mag e0 = PL := by
            unfold placeV
            rw [← HMG.out.2.2.2.2, HPL.out, HBI.out]
            congr 1
            omega
          unfold stepsV
          rw [h1, hST, HSVE.out, Nat.add_comm, show (PL - (2 - 2 ^ (E - 1))).toNat = kk from by have := HBI.out; omega]
        clear hkb hF23 hF24 hkF hsl hST hkFi hkk HSVE HSL HPL
        apply share
        · intro L17
          refine region_J 12 (G w10) (by kernel_rfl) (by first | exact (G.refl _).drew | exact G.drew (by assumption)) ?_
          intro hSh
          refine wpAnyJ_take (i := 1) (v := ?_) rfl (by kernel_rfl) (by kernel_rfl) (by kernel_rfl) (by kernel_rfl) (by kernel_rfl) (by kernel_rfl) (by kernel_rfl) (fun _ _ _ h => h) (Or.inl ⟨by rfl, ?_⟩) (by assumption) ?_
          rotate_left
          · intro wq hwq
            have hq89 := G.cell (p := ⟨pf, 0, none⟩) (v := .int .i64 E) hwq (by first | assumption | (simp; done) | (simp; omega) | omega) (by assumption)
            have hq90 := G.cell (p := ⟨pf, 1, none⟩) (v := .int .i64 F) hwq (by first | assumption | (simp; done) | (simp; omega) | omega) (by assumption)
            first | (go_simp; done) | (go_simp; with_reducible rfl)
          try simp only [Act.put, List.setIfInBounds_toArray, List.set_cons_zero, List.set_cons_succ]
          refine wpAnyJ_take (i := 3) (v := ?_) rfl (by kernel_rfl) (by kernel_rfl) (by kernel_rfl) (by kernel_rfl) (by kernel_rfl) (by kernel_rfl) (by kernel_rfl) (fun _ _ _ h => h) (Or.inl ⟨by rfl, ?_⟩) (by assumption) ?_
          rotate_left
          · intro wq hwq
            have hq91 := G.cell (p := ⟨pf, 0, none⟩) (v := .int .i64 E) hwq (by first | assumption | (simp; done) | (simp; omega) | omega) (by assumption)
            have hq92 := G.cell (p := ⟨pf, 1, none⟩) (v := .int .i64 F) hwq (by first | assumption | (simp; done) | (simp; omega) | omega) (by assumption)
            first | (go_simp; done) | (go_simp; with_reducible rfl)
          try simp only [Act.put, List.setIfInBounds_toArray, List.set_cons_zero, List.set_cons_succ]
          refine wpAnyJ_take (i := 4) (v := ?_) rfl (by kernel_rfl) (by kernel_rfl) (by kernel_rfl) (by kernel_rfl) (by kernel_rfl) (by kernel_rfl) (by kernel_rfl) (fun _ _ _ h => h) (Or.inl ⟨by rfl, ?_⟩) (by assumption) ?_
          rotate_left
          · intro wq hwq
            have hq93 := G.cell (p := ⟨pf, 0, none⟩) (v := .int .i64 E) hwq (by first | assumption | (simp; done) | (simp; omega) | omega) (by assumption)
            have hq94 := G.cell (p := ⟨pf, 1, none⟩) (v := .int .i64 F) hwq (by first | assumption | (simp; done) | (simp; omega) | omega) (by assumption)
            first | (go_simp; done) | (go_simp; with_reducible rfl)
          try simp only [Act.put, List.setIfInBounds_toArray, List.set_cons_zero, List.set_cons_succ]
          refine wpAnyJ_take (i := 5) (v := ?_) rfl (by kernel_rfl) (by kernel_rfl) (by kernel_rfl) (by kernel_rfl) (by kernel_rfl) (by kernel_rfl) (by kernel_rfl) (fun _ _ _ h => h) (Or.inl ⟨by rfl, ?_⟩) (by assumption) ?_
          rotate_left
          · intro wq hwq
            have hq95 := G.cell (p := ⟨pf, 0, none⟩) (v := .int .i64 E) hwq (by first | assumption | (simp; done) | (simp; omega) | omega) (by assumption)
            have hq96 := G.cell (p := ⟨pf, 1, none⟩) (v := .int .i64 F) hwq (by first | assumption | (simp; done) | (simp; omega) | omega) (by assumption)
            first | (go_simp; done) | (go_simp; with_reducible rfl)
          try simp only [Act.put, List.setIfInBounds_toArray, List.set_cons_zero, List.set_cons_succ]
          refine wpAnyJ_take (i := 6) (v := ?_) rfl (by kernel_rfl) (by kernel_rfl) (by kernel_rfl) (by kernel_rfl) (by kernel_rfl) (by kernel_rfl) (by kernel_rfl) (fun _ _ _ h => h) (Or.inl ⟨by rfl, ?_⟩) (by assumption) ?_
          rotate_left
          · intro wq hwq
            have hq97 := G.cell (p := ⟨pf, 0, none⟩) (v := .int .i64 E) hwq (by first | assumption | (simp; done) | (simp; omega) | omega) (by assumption)
            have hq98 := G.cell (p := ⟨pf, 1, none⟩) (v := .int .i64 F) hwq (by first | assumption | (simp; done) | (simp; omega) | omega) (by assumption)
            first | (go_simp; done) | (go_simp; with_reducible rfl)
          try simp only [Act.put, List.setIfInBounds_toArray, List.set_cons_zero, List.set_cons_succ]
          refine wpAnyJ_take (i := 8) (v := ?_) rfl (by kernel_rfl) (by kernel_rfl) (by kernel_rfl) (by kernel_rfl) (by kernel_rfl) (by kernel_rfl) (by kernel_rfl) (fun _ _ _ h => h) (Or.inl ⟨by rfl, ?_⟩) (by assumption) ?_
          rotate_left
          · intro wq hwq
            have hq99 := G.cell (p := ⟨pf, 0, none⟩) (v := .int .i64 E) hwq (by first | assumption | (simp; done) | (simp; omega) | omega) (by assumption)
            have hq100 := G.cell (p := ⟨pf, 1, none⟩) (v := .int .i64 F) hwq (by first | assumption | (simp; done) | (simp; omega) | omega) (by assumption)
            first | (go_simp; done) | (go_simp; with_reducible rfl)
          try simp only [Act.put, List.setIfInBounds_toArray, List.set_cons_zero, List.set_cons_succ]
          refine wpAnyJ_take (i := 9) (v := ?_) rfl (by kernel_rfl) (by kernel_rfl) (by kernel_rfl) (by kernel_rfl) (by kernel_rfl) (by kernel_rfl) (by kernel_rfl) (fun _ _ _ h => h) (Or.inl ⟨by rfl, ?_⟩) (by assumption) ?_
          rotate_left
          · intro wq hwq
            have hq101 := G.cell (p := ⟨pf, 0, none⟩) (v := .int .i64 E) hwq (by first | assumption | (simp; done) | (simp; omega) | omega) (by assumption)
            have hq102 := G.cell (p := ⟨pf, 1, none⟩) (v := .int .i64 F) hwq (by first | assumption | (simp; done) | (simp; omega) | omega) (by assumption)
            first | (go_simp; done) | (go_simp; with_reducible rfl)
          try simp only [Act.put, List.setIfInBounds_toArray, List.set_cons_zero, List.set_cons_succ]
          refine wpAnyJ_take (i := 10) (v := ?_) rfl (by kernel_rfl) (by kernel_rfl) (by kernel_rfl) (by kernel_rfl) (by kernel_rfl) (by kernel_rfl) (by kernel_rfl) (fun _ _ _ h => h) (Or.inl ⟨by rfl, ?_⟩) (by assumption) ?_
          rotate_left
          · intro wq hwq
            have hq103 := G.cell (p := ⟨pf, 0, none⟩) (v := .int .i64 E) hwq (by first | assumption | (simp; done) | (simp; omega) | omega) (by assumption)
            have hq104 := G.cell (p := ⟨pf, 1, none⟩) (v := .int .i64 F) hwq (by first | assumption | (simp; done) | (simp; omega) | omega) (by assumption)
            first | (go_simp; done) | (go_simp; with_reducible rfl)
          try simp only [Act.put, List.setIfInBounds_toArray, List.set_cons_zero, List.set_cons_succ]
          show wpAnyJ _ _ _ _ _ _ _ _ _ w10.drew
          rw [HW1.out, HW2.out]
          have hS11 := hSh
          generalize w10.drew = w11 at *
          clear hSh
          refine wpAnyJ_three (i := 0) (j := 2) (l := 7) (by kernel_rfl) rfl rfl rfl ?_ ?_ ?_
          · skip
            intro K hK
            go_simp
            refine hK.out _ _ (Or.inr (hS11.alloc _)) ?_
            clear hK K
            have hn := NI.new hS11 62
            have hal := (G.refl w11).alloc (.cells #[.bool false, .slice none 0 0] 62)
            have hS12 := G.trans hS11 hal
            generalize w11.heap.size = pb at *
            generalize w11.alloc (.cells #[.bool false, .slice none 0 0] 62) = w12 at *
            have HB12 : Hid (NI w10 w12 pb 0) := hn
            clear hn hal hS11
            refine wpAnyJ_two (i := 2) (j := 7) (by kernel_rfl) rfl rfl ?_ ?_
            · skip
              intro K hK
              go_simp
              refine hK.out _ _ (Or.inr (hS12.alloc _)) ?_
              clear hK K
              have hn := NI.new hS12 62
              have hal := (G.refl w12).alloc (.cells #[.bool false, .slice none 0 0] 62)
              have hS13 := G.trans hS12 hal
              have HBt := HB12.out.G hal
              have hne : w12.heap.size ≠ pb := by have := HB12.out.2.1; omega
              generalize w12.heap.size = pl at *
              generalize w12.alloc (.cells #[.bool false, .slice none 0 0] 62) = w13 at *
              have HL13 : Hid (NI w10 w13 pl 0) := hn
              have HB13 : Hid (NI w10 w13 pb 0) := HBt
              have HNE : Hid (pb ≠ pl) := hne.symm
              clear hn hal hS12 HB12 HBt hne
              refine wpAnyJ_next (i := 7) (by kernel_rfl) rfl ?_
              intro K hK
              go_simp
              go_wp2_with (go_at_call 34; refine Calls.mono (P := Try.prog) (newI_c w13 (kk : Int) HKK.out) ?_; intro e w14 hx; obtain ⟨p7, rfl, hg, h71, h72, h73⟩ := hx)
              refine hK.out _ _ (Or.inr (G.trans hS13 hg)) ?_
              clear hK K
              have hS14 := G.trans hS13 hg
              have hsz := hS13.size
              have HW14 : Hid (NI w10 w14 p7 (kk : Int)) := ⟨by omega, h72, h73⟩
              have HB14 : Hid (NI w10 w14 pb 0) := HB13.out.G hg
              have HL14 : Hid (NI w10 w14 pl 0) := HL13.out.G hg
              clear hg h71 h72 h73 hsz hS13 HB13 HL13
              refine wpAnyJ_next (i := 11) (by kernel_rfl) rfl ?_
              intro K hK
              go_simp
              have HLS : Hid _ := lshI_c w14 pl 0 p7 0 F 0 (kk : Int) 2 (by omega) (by omega) HKB.out HL14.out.2.1 HW14.out.2.1 HL14.out.2.2 HW14.out.2.2
              go_wp2_with (go_at_call 33; refine Calls.mono (P := Try.prog) HLS.out ?_; intro e w15 hx; obtain ⟨rfl, hS15, hl, -, hkp⟩ := SetTo.step hS14 HL14.out hx)
              have HL15 : Hid (NI w10 w15 pl ((kk : Int) * 2 ^ F)) := hl
              have HB15 : Hid (NI w10 w15 pb 0) := hkp pb 0 HNE.out HB14.out
              refine hK.out _ _ (Or.inr hS15) ?_
              clear hK K hx hl hkp HLS hS14 HL14 HW14 HB14
              have HAD : Hid _ := addI_c w15 pb 0 pn 0 pl 0 0 (SV : Int) ((kk : Int) * 2 ^ F) 2 (by omega) HAB.out.1 HAB.out.2 HB15.out.2.1 (G.lt hS15 HNS.out) HL15.out.2.1 HB15.out.2.2 (IntIs.G HNI.out HNS.out hS15) HL15.out.2.2
              refine wpAnyJ_next (i := 12) (by kernel_rfl) rfl ?_
              intro K hK
              go_simp
              go_wp2_with (go_at_call 32; refine Calls.mono (P := Try.prog) HAD.out ?_; intro e w16 hx; obtain ⟨rfl, hS16, hb16, -, -⟩ := SetTo.step hS15 HB15.out hx)
              refine hK.out _ _ (Or.inl (by decide)) ?_
              rw [HSTE.out] at hb16
              have HB16 : Hid (NI w10 w16 pb (ST : Int)) := hb16
              have hG16 := G.trans hG10 hS16
              clear hK K hx hb16 HAD HB15 HL15 hS15 hS16 HNE
              refine wpAnyJ_next (i := 13) (by kernel_rfl) rfl ?_
              intro K hK
              go_simp
              refine hK.out _ _ (Or.inl (by decide)) ?_
              clear hK K
              refine wpAnyJ_done (by kernel_rfl) ?_ _
              revert HB16
              revert hG16
              revert p7
              revert pl
              revert pb
              revert w16
              exact L17.out
            · as_aux_lemma =>
                intro K hK
                go_simp
                go_wp2_with (go_at_call 34; refine Calls.mono (P := Try.prog) (newI_c w12 (kk : Int) HKK.out) ?_; intro e w13 hx; obtain ⟨p7, rfl, hg, h71, h72, h73⟩ := hx)
                refine hK.out _ _ (Or.inr (G.trans hS12 hg)) ?_
                clear hK K
                have hS13 := G.trans hS12 hg
                have hsz := hS12.size
                have HW13 : Hid (NI w10 w13 p7 (kk : Int)) := ⟨by omega, h72, h73⟩
                have HB13 : Hid (NI w10 w13 pb 0) := HB12.out.G hg
                clear hg h71 h72 h73 hsz hS12 HB12
                refine wpAnyJ_next (i := 2) (by kernel_rfl) rfl ?_
                intro K hK
                go_simp
                refine hK.out _ _ (Or.inr (hS13.alloc _)) ?_
                clear hK K
                have hn := NI.new hS13 62
                have hal := (G.refl w13).alloc (.cells #[.bool false, .slice none 0 0] 62)
                have hS14 := G.trans hS13 hal
                have HBt := HB13.out.G hal
                have HWt := HW13.out.G hal
                have hne : w13.heap.size ≠ pb := by have := HB13.out.2.1; omega
                generalize w13.heap.size = pl at *
                generalize w13.alloc (.cells #[.bool false, .slice none 0 0] 62) = w14 at *
                have HL14 : Hid (NI w10 w14 pl 0) := hn
                have HB14 : Hid (NI w10 w14 pb 0) := HBt
                have HW14 : Hid (NI w10 w14 p7 (kk : Int)) := HWt
                have HNE : Hid (pb ≠ pl) := hne.symm
                clear hn hal hS13 HB13 HBt HW13 HWt hne
                refine wpAnyJ_next (i := 11) (by kernel_rfl) rfl ?_
                intro K hK
                go_simp
                have HLS : Hid _ := lshI_c w14 pl 0 p7 0 F 0 (kk : Int) 2 (by omega) (by omega) HKB.out HL14.out.2.1 HW14.out.2.1 HL14.out.2.2 HW14.out.2.2
                go_wp2_with (go_at_call 33; refine Calls.mono (P := Try.prog) HLS.out ?_; intro e w15 hx; obtain ⟨rfl, hS15, hl, -, hkp⟩ := SetTo.step hS14 HL14.out hx)
                have HL15 : Hid (NI w10 w15 pl ((kk : Int) * 2 ^ F)) := hl
                have HB15 : Hid (NI w10 w15 pb 0) := hkp pb 0 HNE.out HB14.out
                refine hK.out _ _ (Or.inr hS15) ?_
                clear hK K hx hl hkp HLS hS14 HL14 HW14 HB14
                have HAD : Hid _ := addI_c w15 pb 0 pn 0 pl 0 0 (SV : Int) ((kk : Int) * 2 ^ F) 2 (by omega) HAB.out.1 HAB.out.2 HB15.out.2.1 (G.lt hS15 HNS.out) HL15.out.2.1 HB15.out.2.2 (IntIs.G HNI.out HNS.out hS15) HL15.out.2.2
                refine wpAnyJ_next (i := 12) (by kernel_rfl) rfl ?_
                intro K hK
                go_simp
                go_wp2_with (go_at_call 32; refine Calls.mono (P := Try.prog) HAD.out ?_; intro e w16 hx; obtain ⟨rfl, hS16, hb16, -, -⟩ := SetTo.step hS15 HB15.out hx)
                refine hK.out _ _ (Or.inl (by decide)) ?_
                rw [HSTE.out] at hb16
                have HB16 : Hid (NI w10 w16 pb (ST : Int)) := hb16
                have hG16 := G.trans hG10 hS16
                clear hK K hx hb16 HAD HB15 HL15 hS15 hS16 HNE
                refine wpAnyJ_next (i := 13) (by kernel_rfl) rfl ?_
                intro K hK
                go_simp
                refine hK.out _ _ (Or.inl (by decide)) ?_
                clear hK K
                refine wpAnyJ_done (by kernel_rfl) ?_ _
                revert HB16
                revert hG16
                revert p7
                revert pl
                revert pb
                revert w16
                exact L17.out
          · as_aux_lemma =>
              intro K hK
              go_simp
              refine hK.out _ _ (Or.inr (hS11.alloc _)) ?_
              clear hK K
              have hn := NI.new hS11 62
              have hal := (G.refl w11).alloc (.cells #[.bool false, .slice none 0 0] 62)
              have hS12 := G.trans hS11 hal
              generalize w11.heap.size = pl at *
              generalize w11.alloc (.cells #[.bool false, .slice none 0 0] 62) = w12 at *
              have HL12 : Hid (NI w10 w12 pl 0) := hn
              clear hn hal hS11
              refine wpAnyJ_two (i := 0) (j := 7) (by kernel_rfl) rfl rfl ?_ ?_
              · as_aux_lemma =>
                  intro K hK
                  go_simp
                  refine hK.out _ _ (Or.inr (hS12.alloc _)) ?_
                  clear hK K
                  have hn := NI.new hS12 62
                  have hal := (G.refl w12).alloc (.cells #[.bool false, .slice none 0 0] 62)
                  have hS13 := G.trans hS12 hal
                  have HLt := HL12.out.G hal
                  have hne : w12.heap.size ≠ pl := by have := HL12.out.2.1; omega
                  generalize w12.heap.size = pb at *
                  generalize w12.alloc (.cells #[.bool false, .slice none 0 0] 62) = w13 at *
                  have HB13 : Hid (NI w10 w13 pb 0) := hn
                  have HL13 : Hid (NI w10 w13 pl 0) := HLt
                  have HNE : Hid (pb ≠ pl) := hne
                  clear hn hal hS12 HL12 HLt hne
                  refine wpAnyJ_next (i := 7) (by kernel_rfl) rfl ?_
                  intro K hK
                  go_simp
                  go_wp2_with (go_at_call 34; refine Calls.mono (P := Try.prog) (newI_c w13 (kk : Int) HKK.out) ?_; intro e w14 hx; obtain ⟨p7, rfl, hg, h71, h72, h73⟩ := hx)
                  refine hK.out _ _ (Or.inr (G.trans hS13 hg)) ?_
                  clear hK K
                  have hS14 := G.trans hS13 hg
                  have hsz := hS13.size
                  have HW14 : Hid (NI w10 w14 p7 (kk : Int)) := ⟨by omega, h72, h73⟩
                  have HB14 : Hid (NI w10 w14 pb 0) := HB13.out.G hg
                  have HL14 : Hid (NI w10 w14 pl 0) := HL13.out.G hg
                  clear hg h71 h72 h73 hsz hS13 HB13 HL13
                  refine wpAnyJ_next (i := 11) (by kernel_rfl) rfl ?_
                  intro K hK
                  go_simp
                  have HLS : Hid _ := lshI_c w14 pl 0 p7 0 F 0 (kk : Int) 2 (by omega) (by omega) HKB.out HL14.out.2.1 HW14.out.2.1 HL14.out.2.2 HW14.out.2.2
                  go_wp2_with (go_at_call 33; refine Calls.mono (P := Try.prog) HLS.out ?_; intro e w15 hx; obtain ⟨rfl, hS15, hl, -, hkp⟩ := SetTo.step hS14 HL14.out hx)
                  have HL15 : Hid (NI w10 w15 pl ((kk : Int) * 2 ^ F)) := hl
                  have HB15 : Hid (NI w10 w15 pb 0) := hkp pb 0 HNE.out HB14.out
                  refine hK.out _ _ (Or.inr hS15) ?_
                  clear hK K hx hl hkp HLS hS14 HL14 HW14 HB14
                  have HAD : Hid _ := addI_c w15 pb 0 pn 0 pl 0 0 (SV : Int) ((kk : Int) * 2 ^ F) 2 (by omega) HAB.out.1 HAB.out.2 HB15.out.2.1 (G.lt hS15 HNS.out) HL15.out.2.1 HB15.out.2.2 (IntIs.G HNI.out HNS.out hS15) HL15.out.2.2
                  refine wpAnyJ_next (i := 12) (by kernel_rfl) rfl ?_
                  intro K hK
                  go_simp
                  go_wp2_with (go_at_call 32; refine Calls.mono (P := Try.prog) HAD.out ?_; intro e w16 hx; obtain ⟨rfl, hS16, hb16, -, -⟩ := SetTo.step hS15 HB15.out hx)
                  refine hK.out _ _ (Or.inl (by decide)) ?_
                  rw [HSTE.out] at hb16
                  have HB16 : Hid (NI w10 w16 pb (ST : Int)) := hb16
                  have hG16 := G.trans hG10 hS16
                  clear hK K hx hb16 HAD HB15 HL15 hS15 hS16 HNE
                  refine wpAnyJ_next (i := 13) (by kernel_rfl) rfl ?_
                  intro K hK
                  go_simp
                  refine hK.out _ _ (Or.inl (by decide)) ?_
                  clear hK K
                  refine wpAnyJ_done (by kernel_rfl) ?_ _
                  revert HB16
                  revert hG16
                  revert p7
                  revert pl
                  revert pb
                  revert w16
                  exact L17.out
              · as_aux_lemma =>
                  intro K hK
                  go_simp
                  go_wp2_with (go_at_call 34; refine Calls.mono (P := Try.prog) (newI_c w12 (kk : Int) HKK.out) ?_; intro e w13 hx; obtain ⟨p7, rfl, hg, h71, h72, h73⟩ := hx)
                  refine hK.out _ _ (Or.inr (G.trans hS12 hg)) ?_
                  clear hK K
                  have hS13 := G.trans hS12 hg
                  have hsz := hS12.size
                  have HW13 : Hid (NI w10 w13 p7 (kk : Int)) := ⟨by omega, h72, h73⟩
                  have HL13 : Hid (NI w10 w13 pl 0) := HL12.out.G hg
                  clear hg h71 h72 h73 hsz hS12 HL12
                  refine wpAnyJ_two (i := 0) (j := 11) (by kernel_rfl) rfl rfl ?_ ?_
                  · as_aux_lemma =>
                      intro K hK
                      go_simp
                      refine hK.out _ _ (Or.inr (hS13.alloc _)) ?_
                      clear hK K
                      have hn := NI.new hS13 62
                      have hal := (G.refl w13).alloc (.cells #[.bool false, .slice none 0 0] 62)
                      have hS14 := G.trans hS13 hal
                      have HLt := HL13.out.G hal
                      have HWt := HW13.out.G hal
                      have hne : w13.heap.size ≠ pl := by have := HL13.out.2.1; omega
                      generalize w13.heap.size = pb at *
                      generalize w13.alloc (.cells #[.bool false, .slice none 0 0] 62) = w14 at *
                      have HB14 : Hid (NI w10 w14 pb 0) := hn
                      have HL14 : Hid (NI w10 w14 pl 0) := HLt
                      have HW14 : Hid (NI w10 w14 p7 (kk : Int)) := HWt
                      have HNE : Hid (pb ≠ pl) := hne
                      clear hn hal hS13 HL13 HLt HW13 HWt hne
                      refine wpAnyJ_next (i := 11) (by kernel_rfl) rfl ?_
                      intro K hK
                      go_simp
                      have HLS : Hid _ := lshI_c w14 pl 0 p7 0 F 0 (kk : Int) 2 (by omega) (by omega) HKB.out HL14.out.2.1 HW14.out.2.1 HL14.out.2.2 HW14.out.2.2
                      go_wp2_with (go_at_call 33; refine Calls.mono (P := Try.prog) HLS.out ?_; intro e w15 hx; obtain ⟨rfl, hS15, hl, -, hkp⟩ := SetTo.step hS14 HL14.out hx)
                      have HL15 : Hid (NI w10 w15 pl ((kk : Int) * 2 ^ F)) := hl
                      have HB15 : Hid (NI w10 w15 pb 0) := hkp pb 0 HNE.out HB14.out
                      refine hK.out _ _ (Or.inr hS15) ?_
                      clear hK K hx hl hkp HLS hS14 HL14 HW14 HB14
                      have HAD : Hid _ := addI_c w15 pb 0 pn 0 pl 0 0 (SV : Int) ((kk : Int) * 2 ^ F) 2 (by omega) HAB.out.1 HAB.out.2 HB15.out.2.1 (G.lt hS15 HNS.out) HL15.out.2.1 HB15.out.2.2 (IntIs.G HNI.out HNS.out hS15) HL15.out.2.2
                      refine wpAnyJ_next (i := 12) (by kernel_rfl) rfl ?_
                      intro K hK
                      go_simp
                      go_wp2_with (go_at_call 32; refine Calls.mono (P := Try.prog) HAD.out ?_; intro e w16 hx; obtain ⟨rfl, hS16, hb16, -, -⟩ := SetTo.step hS15 HB15.out hx)
                      refine hK.out _ _ (Or.inl (by decide)) ?_
                      rw [HSTE.out] at hb16
                      have HB16 : Hid (NI w10 w16 pb (ST : Int)) := hb16
                      have hG16 := G.trans hG10 hS16
                      clear hK K hx hb16 HAD HB15 HL15 hS15 hS16 HNE
                      refine wpAnyJ_next (i := 13) (by kernel_rfl) rfl ?_
                      intro K hK
                      go_simp
                      refine hK.out _ _ (Or.inl (by decide)) ?_
                      clear hK K
                      refine wpAnyJ_done (by kernel_rfl) ?_ _
                      revert HB16
                      revert hG16
                      revert p7
                      revert pl
                      revert pb
                      revert w16
                      exact L17.out
                  · as_aux_lemma =>
                      intro K hK
                      go_simp
                      have HLS : Hid _ := lshI_c w13 pl 0 p7 0 F 0 (kk : Int) 2 (by omega) (by omega) HKB.out HL13.out.2.1 HW13.out.2.1 HL13.out.2.2 HW13.out.2.2
                      go_wp2_with (go_at_call 33; refine Calls.mono (P := Try.prog) HLS.out ?_; intro e w14 hx; obtain ⟨rfl, hS14, hl, -, hkp⟩ := SetTo.step hS13 HL13.out hx)
                      have HL14 : Hid (NI w10 w14 pl ((kk : Int) * 2 ^ F)) := hl
                      refine hK.out _ _ (Or.inr hS14) ?_
                      clear hK K hx hl hkp HLS hS13 HL13 HW13
                      refine wpAnyJ_next (i := 0) (by kernel_rfl) rfl ?_
                      intro K hK
                      go_simp
                      refine hK.out _ _ (Or.inr (hS14.alloc _)) ?_
                      clear hK K
                      have hn := NI.new hS14 62
                      have hal := (G.refl w14).alloc (.cells #[.bool false, .slice none 0 0] 62)
                      have hS15 := G.trans hS14 hal
                      have HLt := HL14.out.G hal
                      have hne : w14.heap.size ≠ pl := by have := HL14.out.2.1; omega
                      generalize w14.heap.size = pb at *
                      generalize w14.alloc (.cells #[.bool false, .slice none 0 0] 62) = w15 at *
                      have HB15 : Hid (NI w10 w15 pb 0) := hn
                      have HL15 : Hid (NI w10 w15 pl ((kk : Int) * 2 ^ F)) := HLt
                      have HNE : Hid (pb ≠ pl) := hne
                      clear hn hal hS14 HL14 HLt hne
                      have HAD : Hid _ := addI_c w15 pb 0 pn 0 pl 0 0 (SV : Int) ((kk : Int) * 2 ^ F) 2 (by omega) HAB.out.1 HAB.out.2 HB15.out.2.1 (G.lt hS15 HNS.out) HL15.out.2.1 HB15.out.2.2 (IntIs.G HNI.out HNS.out hS15) HL15.out.2.2
                      refine wpAnyJ_next (i := 12) (by kernel_rfl) rfl ?_
                      intro K hK
                      go_simp
                      go_wp2_with (go_at_call 32; refine Calls.mono (P := Try.prog) HAD.out ?_; intro e w16 hx; obtain ⟨rfl, hS16, hb16, -, -⟩ := SetTo.step hS15 HB15.out hx)
                      refine hK.out _ _ (Or.inl (by decide)) ?_
                      rw [HSTE.out] at hb16
                      have HB16 : Hid (NI w10 w16 pb (ST : Int)) := hb16
                      have hG16 := G.trans hG10 hS16
                      clear hK K hx hb16 HAD HB15 HL15 hS15 hS16 HNE
                      refine wpAnyJ_next (i := 13) (by kernel_rfl) rfl ?_
                      intro K hK
                      go_simp
                      refine hK.out _ _ (Or.inl (by decide)) ?_
                      clear hK K
                      refine wpAnyJ_done (by kernel_rfl) ?_ _
                      revert HB16
                      revert hG16
                      revert p7
                      revert pl
                      revert pb
                      revert w16
                      exact L17.out
          · as_aux_lemma =>
              intro K hK
              go_simp
              go_wp2_with (go_at_call 34; refine Calls.mono (P := Try.prog) (newI_c w11 (kk : Int) HKK.out) ?_; intro e w12 hx; obtain ⟨p7, rfl, hg, h71, h72, h73⟩ := hx)
              refine hK.out _ _ (Or.inr (G.trans hS11 hg)) ?_
              clear hK K
              have hS12 := G.trans hS11 hg
              have hsz := hS11.size
              have HW12 : Hid (NI w10 w12 p7 (kk : Int)) := ⟨by omega, h72, h73⟩
              clear hg h71 h72 h73 hsz hS11
              refine wpAnyJ_two (i := 0) (j := 2) (by kernel_rfl) rfl rfl ?_ ?_
              · as_aux_lemma =>
                  intro K hK
                  go_simp
                  refine hK.out _ _ (Or.inr (hS12.alloc _)) ?_
                  clear hK K
                  have hn := NI.new hS12 62
                  have hal := (G.refl w12).alloc (.cells #[.bool false, .slice none 0 0] 62)
                  have hS13 := G.trans hS12 hal
                  have HWt := HW12.out.G hal
                  generalize w12.heap.size = pb at *
                  generalize w12.alloc (.cells #[.bool false, .slice none 0 0] 62) = w13 at *
                  have HB13 : Hid (NI w10 w13 pb 0) := hn
                  have HW13 : Hid (NI w10 w13 p7 (kk : Int)) := HWt
                  clear hn hal hS12 HW12 HWt
                  refine wpAnyJ_next (i := 2) (by kernel_rfl) rfl ?_
                  intro K hK
                  go_simp
                  refine hK.out _ _ (Or.inr (hS13.alloc _)) ?_
                  clear hK K
                  have hn := NI.new hS13 62
                  have hal := (G.refl w13).alloc (.cells #[.bool false, .slice none 0 0] 62)
                  have hS14 := G.trans hS13 hal
                  have HBt := HB13.out.G hal
                  have HWt := HW13.out.G hal
                  have hne : w13.heap.size ≠ pb := by have := HB13.out.2.1; omega
                  generalize w13.heap.size = pl at *
                  generalize w13.alloc (.cells #[.bool false, .slice none 0 0] 62) = w14 at *
                  have HL14 : Hid (NI w10 w14 pl 0) := hn
                  have HB14 : Hid (NI w10 w14 pb 0) := HBt
                  have HW14 : Hid (NI w10 w14 p7 (kk : Int)) := HWt
                  have HNE : Hid (pb ≠ pl) := hne.symm
                  clear hn hal hS13 HB13 HBt HW13 HWt hne
                  refine wpAnyJ_next (i := 11) (by kernel_rfl) rfl ?_
                  intro K hK
                  go_simp
                  have HLS : Hid _ := lshI_c w14 pl 0 p7 0 F 0 (kk : Int) 2 (by omega) (by omega) HKB.out HL14.out.2.1 HW14.out.2.1 HL14.out.2.2 HW14.out.2.2
                  go_wp2_with (go_at_call 33; refine Calls.mono (P := Try.prog) HLS.out ?_; intro e w15 hx; obtain ⟨rfl, hS15, hl, -, hkp⟩ := SetTo.step hS14 HL14.out hx)
                  have HL15 : Hid (NI w10 w15 pl ((kk : Int) * 2 ^ F)) := hl
                  have HB15 : Hid (NI w10 w15 pb 0) := hkp pb 0 HNE.out HB14.out
                  refine hK.out _ _ (Or.inr hS15) ?_
                  clear hK K hx hl hkp HLS hS14 HL14 HW14 HB14
                  have HAD : Hid _ := addI_c w15 pb 0 pn 0 pl 0 0 (SV : Int) ((kk : Int) * 2 ^ F) 2 (by omega) HAB.out.1 HAB.out.2 HB15.out.2.1 (G.lt hS15 HNS.out) HL15.out.2.1 HB15.out.2.2 (IntIs.G HNI.out HNS.out hS15) HL15.out.2.2
                  refine wpAnyJ_next (i := 12) (by kernel_rfl) rfl ?_
                  intro K hK
                  go_simp
                  go_wp2_with (go_at_call 32; refine Calls.mono (P := Try.prog) HAD.out ?_; intro e w16 hx; obtain ⟨rfl, hS16, hb16, -, -⟩ := SetTo.step hS15 HB15.out hx)
                  refine hK.out _ _ (Or.inl (by decide)) ?_
                  rw [HSTE.out] at hb16
                  have HB16 : Hid (NI w10 w16 pb (ST : Int)) := hb16
                  have hG16 := G.trans hG10 hS16
                  clear hK K hx hb16 HAD HB15 HL15 hS15 hS16 HNE
                  refine wpAnyJ_next (i := 13) (by kernel_rfl) rfl ?_
                  intro K hK
                  go_simp
                  refine hK.out _ _ (Or.inl (by decide)) ?_
                  clear hK K
                  refine wpAnyJ_done (by kernel_rfl) ?_ _
                  revert HB16
                  revert hG16
                  revert p7
                  revert pl
                  revert pb
                  revert w16
                  exact L17.out
              · as_aux_lemma =>
                  intro K hK
                  go_simp
                  refine hK.out _ _ (Or.inr (hS12.alloc _)) ?_
                  clear hK K
                  have hn := NI.new hS12 62
                  have hal := (G.refl w12).alloc (.cells #[.bool false, .slice none 0 0] 62)
                  have hS13 := G.trans hS12 hal
                  have HWt := HW12.out.G hal
                  generalize w12.heap.size = pl at *
                  generalize w12.alloc (.cells #[.bool false, .slice none 0 0] 62) = w13 at *
                  have HL13 : Hid (NI w10 w13 pl 0) := hn
                  have HW13 : Hid (NI w10 w13 p7 (kk : Int)) := HWt
                  clear hn hal hS12 HW12 HWt
                  refine wpAnyJ_two (i := 0) (j := 11) (by kernel_rfl) rfl rfl ?_ ?_
                  · as_aux_lemma =>
                      intro K hK
                      go_simp
                      refine hK.out _ _ (Or.inr (hS13.alloc _)) ?_
                      clear hK K
                      have hn := NI.new hS13 62
                      have hal := (G.refl w13).alloc (.cells #[.bool false, .slice none 0 0] 62)
                      have hS14 := G.trans hS13 hal
                      have HLt := HL13.out.G hal
                      have HWt := HW13.out.G hal
                      have hne : w13.heap.size ≠ pl := by have := HL13.out.2.1; omega
                      generalize w13.heap.size = pb at *
                      generalize w13.alloc (.cells #[.bool false, .slice none 0 0] 62) = w14 at *
                      have HB14 : Hid (NI w10 w14 pb 0) := hn
                      have HL14 : Hid (NI w10 w14 pl 0) := HLt
                      have HW14 : Hid (NI w10 w14 p7 (kk : Int)) := HWt
                      have HNE : Hid (pb ≠ pl) := hne
                      clear hn hal hS13 HL13 HLt HW13 HWt hne
                      refine wpAnyJ_next (i := 11) (by kernel_rfl) rfl ?_
                      intro K hK
                      go_simp
                      have HLS : Hid _ := lshI_c w14 pl 0 p7 0 F 0 (kk : Int) 2 (by omega) (by omega) HKB.out HL14.out.2.1 HW14.out.2.1 HL14.out.2.2 HW14.out.2.2
                      go_wp2_with (go_at_call 33; refine Calls.mono (P := Try.prog) HLS.out ?_; intro e w15 hx; obtain ⟨rfl, hS15, hl, -, hkp⟩ := SetTo.step hS14 HL14.out hx)
                      have HL15 : Hid (NI w10 w15 pl ((kk : Int) * 2 ^ F)) := hl
                      have HB15 : Hid (NI w10 w15 pb 0) := hkp pb 0 HNE.out HB14.out
                      refine hK.out _ _ (Or.inr hS15) ?_
                      clear hK K hx hl hkp HLS hS14 HL14 HW14 HB14
                      have HAD : Hid _ := addI_c w15 pb 0 pn 0 pl 0 0 (SV : Int) ((kk : Int) * 2 ^ F) 2 (by omega) HAB.out.1 HAB.out.2 HB15.out.2.1 (G.lt hS15 HNS.out) HL15.out.2.1 HB15.out.2.2 (IntIs.G HNI.out HNS.out hS15) HL15.out.2.2
                      refine wpAnyJ_next (i := 12) (by kernel_rfl) rfl ?_
                      intro K hK
                      go_simp
                      go_wp2_with (go_at_call 32; refine Calls.mono (P := Try.prog) HAD.out ?_; intro e w16 hx; obtain ⟨rfl, hS16, hb16, -, -⟩ := SetTo.step hS15 HB15.out hx)
                      refine hK.out _ _ (Or.inl (by decide)) ?_
                      rw [HSTE.out] at hb16
                      have HB16 : Hid (NI w10 w16 pb (ST : Int)) := hb16
                      have hG16 := G.trans hG10 hS16
                      clear hK K hx hb16 HAD HB15 HL15 hS15 hS16 HNE
                      refine wpAnyJ_next (i := 13) (by kernel_rfl) rfl ?_
                      intro K hK
                      go_simp
                      refine hK.out _ _ (Or.inl (by decide)) ?_
                      clear hK K
                      refine wpAnyJ_done (by kernel_rfl) ?_ _
                      revert HB16
                      revert hG16
                      revert p7
                      revert pl
                      revert pb
                      revert w16
                      exact L17.out
                  · as_aux_lemma =>
                      intro K hK
                      go_simp
                      have HLS : Hid _ := lshI_c w13 pl 0 p7 0 F 0 (kk : Int) 2 (by omega) (by omega) HKB.out HL13.out.2.1 HW13.out.2.1 HL13.out.2.2 HW13.out.2.2
                      go_wp2_with (go_at_call 33; refine Calls.mono (P := Try.prog) HLS.out ?_; intro e w14 hx; obtain ⟨rfl, hS14, hl, -, hkp⟩ := SetTo.step hS13 HL13.out hx)
                      have HL14 : Hid (NI w10 w14 pl ((kk : Int) * 2 ^ F)) := hl
                      refine hK.out _ _ (Or.inr hS14) ?_
                      clear hK K hx hl hkp HLS hS13 HL13 HW13
                      refine wpAnyJ_next (i := 0) (by kernel_rfl) rfl ?_
                      intro K hK
                      go_simp
                      refine hK.out _ _ (Or.inr (hS14.alloc _)) ?_
                      clear hK K
                      have hn := NI.new hS14 62
                      have hal := (G.refl w14).alloc (.cells #[.bool false, .slice none 0 0] 62)
                      have hS15 := G.trans hS14 hal
                      have HLt := HL14.out.G hal
                      have hne : w14.heap.size ≠ pl := by have := HL14.out.2.1; omega
                      generalize w14.heap.size = pb at *
                      generalize w14.alloc (.cells #[.bool false, .slice none 0 0] 62) = w15 at *
                      have HB15 : Hid (NI w10 w15 pb 0) := hn
                      have HL15 : Hid (NI w10 w15 pl ((kk : Int) * 2 ^ F)) := HLt
                      have HNE : Hid (pb ≠ pl) := hne
                      clear hn hal hS14 HL14 HLt hne
                      have HAD : Hid _ := addI_c w15 pb 0 pn 0 pl 0 0 (SV : Int) ((kk : Int) * 2 ^ F) 2 (by omega) HAB.out.1 HAB.out.2 HB15.out.2.1 (G.lt hS15 HNS.out) HL15.out.2.1 HB15.out.2.2 (IntIs.G HNI.out HNS.out hS15) HL15.out.2.2
                      refine wpAnyJ_next (i := 12) (by kernel_rfl) rfl ?_
                      intro K hK
                      go_simp
                      go_wp2_with (go_at_call 32; refine Calls.mono (P := Try.prog) HAD.out ?_; intro e w16 hx; obtain ⟨rfl, hS16, hb16, -, -⟩ := SetTo.step hS15 HB15.out hx)
                      refine hK.out _ _ (Or.inl (by decide)) ?_
                      rw [HSTE.out] at hb16
                      have HB16 : Hid (NI w10 w16 pb (ST : Int)) := hb16
                      have hG16 := G.trans hG10 hS16
                      clear hK K hx hb16 HAD HB15 HL15 hS15 hS16 HNE
                      refine wpAnyJ_next (i := 13) (by kernel_rfl) rfl ?_
                      intro K hK
                      go_simp
                      refine hK.out _ _ (Or.inl (by decide)) ?_
                      clear hK K
                      refine wpAnyJ_done (by kernel_rfl) ?_ _
                      revert HB16
                      revert hG16
                      revert p7
                      revert pl
                      revert pb
                      revert w16
                      exact L17.out
        · skip
          refine Later.mk ?_
          intro w16 pb pl p7 hG16 HB16
          clear hG10 HAB HNI HNS hps10 hd13 hd14
          go_wp2_with fail
          have hc0 := NI.new hG16 62
          have hal := (G.refl w16).alloc (.cells #[.bool false, .slice none 0 0] 62)
          have hG17 := G.trans hG16 hal
          have hbs : pb ≠ w16.heap.size := by have := HB16.out.2.1; omega
          have hb17 : NI w10 _ pb (ST : Int) := HB16.out.G hal
          generalize w16.heap.size = pc at *
          generalize w16.alloc (.cells #[.bool false, .slice none 0 0] 62) = w17 at *
          have HC17 : Hid (NI w w17 pc 0) := hc0
          have HB17 : Hid (pb < w17.heap.size ∧ IntIs w17 pb 0 (ST : Int)) := ⟨hb17.2.1, hb17.2.2⟩
          clear hc0 hal hb17 HB16 hG16
          have HSU : Hid _ := setU_c w17 pc 0 I 0 HI64.out HC17.out.2.1 HC17.out.2.2
          refine Calls.mono (P := Try.prog) HSU.out ?_
          intro e w18 hx
          have hk18 := SetTo.keep HC17.out.2.2 hx HB17.out.2 HB17.out.1 (Or.inl hbs)
          have hs18 := Nat.lt_of_lt_of_le HB17.out.1 (SetTo.size hx)
          obtain ⟨rfl, hG18, hc18, -, -⟩ := SetTo.step hG17 HC17.out hx
          have HC18 : Hid (NI w w18 pc (I : Int)) := hc18
          have HB18 : Hid (pb < w18.heap.size ∧ IntIs w18 pb 0 (ST : Int)) := ⟨hs18, hk18⟩
          clear hx hk18 hs18 hc18 HSU HC17 HB17 hG17 hbs
          go_wp2_with fail
          have HCM : Hid _ := cmpI_c w18 pb 0 pc 0 (ST : Int) (I : Int) 2 (by omega) HST64.out HI64i.out HB18.out.1 HC18.out.2.1 HB18.out.2 HC18.out.2.2
          refine Calls.mono (P := Try.prog) HCM.out ?_
          rintro e w19 ⟨rfl, hg19⟩
          have hG19 := G.trans hG18 hg19
          have hb19 := IntIs.G HB18.out.2 HB18.out.1 hg19
          have HB19 : Hid (IntIs w19 pb 0 (ST : Int)) := hb19
          clear hg19 hb19 HB18 HC18 HCM hG18
          by_cases hge : I ≤ ST
          · have hcv : decide ((0 : Int) ≤ cmpI (ST : Int) (I : Int)) = true := by unfold cmpI; rw [if_neg (by omega)]; split <;> rfl
            have hres := HSTP.out.1 (by rw [← HSTD.out]; exact hge)
            generalize cmpI (ST : Int) (I : Int) = cv at *
            have hor := HOR.out I (Nat.le_refl _)
            clear hge
            go_wp2_with fail
            go_ret
            exact ⟨ret_int (by rw [hres]; first | done | rfl | simp), hG19⟩
          · have hcv : decide ((0 : Int) ≤ cmpI (ST : Int) (I : Int)) = false := by unfold cmpI; rw [if_pos (by omega)]; rfl
            have hres := HSTP.out.2 (by rw [← HSTD.out]; exact hge)
            rw [← HSTD.out] at hres
            generalize cmpI (ST : Int) (I : Int) = cv at *
            have HUI : Hid _ := uint64I_c w19 pb 0 (ST : Int) HST64u.out HB19.out
            rw [Int.natAbs_natCast] at HUI
            have hor := HOR.out ST (by omega)
            clear hge
            go_wp2_with fail
            refine Calls.mono (P := Try.prog) HUI.out ?_
            rintro e w20 ⟨rfl, hg20⟩
            have hG20 := G.trans hG19 hg20
            go_wp2_with fail
            go_ret
            exact ⟨ret_int (by rw [hres]; first | done | rfl | simp), hG20⟩

end Go.Proofs.Ytkimdkgijfknlaa
