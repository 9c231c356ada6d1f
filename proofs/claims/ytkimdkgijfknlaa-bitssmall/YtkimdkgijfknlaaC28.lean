/- What is proved here: the law BitsSmall returns true for any word, any bits, any format; nothing that was there has turned. -/
import Derived.Test.YtkimdkgijfknlaaC27
namespace Go.Proofs.Ytkimdkgijfknlaa
open Go.ChangeShapes Go.WideShapes Go.ChangeAt Go.RowKit
open BN
attribute [local go_sem] frombits_r tobits_r unary_negf

theorem same_one (a : Nat) : same a a = true := by unfold same; simp
theorem pack15 (w : World) : Calls Try.prog 7 #[.float .f64 4609434218613702656, .agg #[.int .i64 5, .int .i64 10]] w fun e w' => e = .returned (.tuple #[.int .u64 15872, .int .i64 0]) ∧ G w w' := by
  have := pack_fin_c 4609434218613702656 1023 2251799813685248 6755399441055744 5 10 w (by decide) (by decide) (by decide) (by decide) (by decide) (by decide)
  have e : nearV 5 10 6755399441055744 ((max 1023 1 : Nat) - 1075) = 15872 := by decide +kernel
  rw [e] at this
  exact this

set_option maxRecDepth 10000 in
set_option maxHeartbeats 4000000 in
theorem small_XR (x b pk : Nat) (E F : Nat) (w : World) (hE : 2 ≤ E) (hE2 : E ≤ 8) (hF : 1 ≤ F) (hF2 : F ≤ 23) (hn : FT.nan x = false)
    (KT : ((b : Int) / 2 ^ (1 + E + F) != 0) = true)
    (KP : ∀ w, Calls Try.prog 7 #[.float .f64 x, .agg #[.int .i64 E, .int .i64 F]] w fun e w' => e = .returned (.tuple #[.int .u64 (pk : Int), .int .i64 0]) ∧ G w w')
    (KU : ∀ w, Calls Try.prog 8 #[.int .u64 (b : Int), .agg #[.int .i64 E, .int .i64 F]] w fun e w' => e = .returned (.tuple #[.float .f64 0, .int .i64 3]) ∧ G w w')
    (KS : ∀ w, Calls Try.prog 9 #[.float .f64 x, .agg #[.int .i64 E, .int .i64 F]] w fun e w' => e = .returned (.int .u64 (pk : Int)) ∧ G w w')
    : Calls Try.prog 4 #[.float .f64 x, .int .u64 b, .agg #[.int .i64 E, .int .i64 F]] w fun e w' => e = .returned (.bool true) ∧ G w w' := by
  have HKP : Hid _ := KP
  have HKU : Hid _ := KU
  have HT5 : Hid _ := KT
  have HKS : Hid _ := KS
  have e0 := FT.eq_zero 0
  rw [decide_eq_true (by rfl)] at e0
  have HK1 : Hid _ := pack15
  have e1 := FT.eq_self x
  rw [hn] at e1
  have t1 : decide ((E : Int) < 2) = false := decide_eq_false (by omega)
  have t2 : decide ((8 : Int) < E) = false := decide_eq_false (by omega)
  have t3 : decide ((F : Int) < 1) = false := decide_eq_false (by omega)
  have t4 : decide ((23 : Int) < F) = false := decide_eq_false (by omega)
  clear KP KU KT KS
  go_enter Try.func4, Try.ntmps4
  go_wp2_with fail
  refine (HK1.out _).mono ?_
  rintro e w1 ⟨rfl, g1⟩
  have hc13 := g1.cell (p := ⟨w.heap.size, 0, none⟩) (v := .int .i64 E) (by first | (simp; done) | (simp; omega) | omega) (by first | assumption | (simp [go_sem]; done) | (simp [*, go_sem]; done))
  have hc14 := g1.cell (p := ⟨w.heap.size, 1, none⟩) (v := .int .i64 F) (by first | (simp; done) | (simp; omega) | omega) (by first | assumption | (simp [go_sem]; done) | (simp [*, go_sem]; done))
  have zg1 := g1.size
  try simp at zg1
  go_wp2_with fail
  refine (HKP.out _).mono ?_
  rintro e w2 ⟨rfl, g2⟩
  have hc15 := g2.cell (p := ⟨w.heap.size, 0, none⟩) (v := .int .i64 E) (by first | (simp; done) | (simp; omega) | omega) (by first | assumption | (simp [go_sem]; done) | (simp [*, go_sem]; done))
  have hc16 := g2.cell (p := ⟨w.heap.size, 1, none⟩) (v := .int .i64 F) (by first | (simp; done) | (simp; omega) | omega) (by first | assumption | (simp [go_sem]; done) | (simp [*, go_sem]; done))
  have zg2 := g2.size
  try simp at zg2
  go_wp2_with fail
  refine (HKU.out _).mono ?_
  rintro e w3 ⟨rfl, g3⟩
  have hc17 := g3.cell (p := ⟨w.heap.size, 0, none⟩) (v := .int .i64 E) (by first | (simp; done) | (simp; omega) | omega) (by first | assumption | (simp [go_sem]; done) | (simp [*, go_sem]; done))
  have hc18 := g3.cell (p := ⟨w.heap.size, 1, none⟩) (v := .int .i64 F) (by first | (simp; done) | (simp; omega) | omega) (by first | assumption | (simp [go_sem]; done) | (simp [*, go_sem]; done))
  have zg3 := g3.size
  try simp at zg3
  go_wp2_with fail
  have hp3 : w.heap.size < w3.heap.size := G.lt g3 (G.lt g2 (G.lt g1 (by simp)))
  refine region_gw (by kernel_rfl) (by kernel_rfl) ?_
  intro W hW
  have hq1 := gw_cell (w := W) (a := ⟨w.heap.size, 0, none⟩) (x := .int .i64 E) (by rw [hW]; first | (simp; done) | (simp; omega) | omega) (by rw [hW]; first | assumption | (simp [go_sem]; done) | (simp [*, go_sem]; done))
  have hq2 := gw_cell (w := W) (a := ⟨w.heap.size, 1, none⟩) (x := .int .i64 F) (by rw [hW]; first | (simp; done) | (simp; omega) | omega) (by rw [hW]; first | assumption | (simp [go_sem]; done) | (simp [*, go_sem]; done))
  clear hW
  repeat (go_big_quiet_step (fail))
  refine wpQuiet_nil ?_
  clear hq1 hq2
  intro w4 hw4
  have hc1 := hw4.cell (p := ⟨w.heap.size, 0, none⟩) (v := .int .i64 E) hp3 (by assumption)
  have hc2 := hw4.cell (p := ⟨w.heap.size, 1, none⟩) (v := .int .i64 F) hp3 (by assumption)
  have hG4 : G w w4 := (by repeat' (first | exact G.refl _ | assumption | refine G.alloc ?_ _ | refine G.drew ?_ | refine G.drewN ?_ _ | (refine G.trans ?_ (by assumption))))
  have hps := G.lt hw4 hp3
  obtain ⟨pf, hpf⟩ : ∃ pf, pf = w.heap.size := ⟨_, rfl⟩
  rw [← hpf] at hc1 hc2 hps ⊢
  clear hw4 hpf hp3 g1 g2 g3
  go_wp2_with fail
  refine Calls.mono (P := Try.prog) (HKS.out _) ?_
  rintro e w5 ⟨rfl, g5⟩
  have hG5 := G.trans hG4 g5
  have hd1 := g5.cell hps hc1
  have hd2 := g5.cell hps hc2
  have hps5 := G.lt g5 hps
  clear hG4 g5 hc1 hc2 hps
  have t5 := HT5.out
  go_wp2_with fail
  go_ret
  exact ⟨rfl, hG5⟩

set_option maxRecDepth 10000 in
set_option maxHeartbeats 4000000 in
theorem small_XN (x b pk : Nat) (E F : Nat) (w : World) (hE : 2 ≤ E) (hE2 : E ≤ 8) (hF : 1 ≤ F) (hF2 : F ≤ 23) (hn : FT.nan x = false)
    (KT : ((b : Int) / 2 ^ (1 + E + F) != 0) = false)
    (KP : ∀ w, Calls Try.prog 7 #[.float .f64 x, .agg #[.int .i64 E, .int .i64 F]] w fun e w' => e = .returned (.tuple #[.int .u64 (pk : Int), .int .i64 0]) ∧ G w w')
    (KU : ∀ w, Calls Try.prog 8 #[.int .u64 (b : Int), .agg #[.int .i64 E, .int .i64 F]] w fun e w' => e = .returned (.tuple #[.float .f64 9221120237041090561, .int .i64 0]) ∧ G w w')
    (KS : ∀ w, Calls Try.prog 9 #[.float .f64 x, .agg #[.int .i64 E, .int .i64 F]] w fun e w' => e = .returned (.int .u64 (pk : Int)) ∧ G w w')
    (KL : ∀ w, Calls Try.prog 10 #[.int .u64 (b : Int), .agg #[.int .i64 E, .int .i64 F]] w fun e w' => e = .returned (.tuple #[.float .f64 0, .bool false]) ∧ G w w')
    : Calls Try.prog 4 #[.float .f64 x, .int .u64 b, .agg #[.int .i64 E, .int .i64 F]] w fun e w' => e = .returned (.bool true) ∧ G w w' := by
  have HKP : Hid _ := KP
  have HKU : Hid _ := KU
  have HT5 : Hid _ := KT
  have HKS : Hid _ := KS
  have HKL : Hid _ := KL
  have e0 := FT.neq_self 9221120237041090561
  rw [show FT.nan 9221120237041090561 = true from by decide] at e0
  have HK1 : Hid _ := pack15
  have e1 := FT.eq_self x
  rw [hn] at e1
  have t1 : decide ((E : Int) < 2) = false := decide_eq_false (by omega)
  have t2 : decide ((8 : Int) < E) = false := decide_eq_false (by omega)
  have t3 : decide ((F : Int) < 1) = false := decide_eq_false (by omega)
  have t4 : decide ((23 : Int) < F) = false := decide_eq_false (by omega)
  clear KP KU KT KS KL
  go_enter Try.func4, Try.ntmps4
  go_wp2_with fail
  refine (HK1.out _).mono ?_
  rintro e w1 ⟨rfl, g1⟩
  have hc19 := g1.cell (p := ⟨w.heap.size, 0, none⟩) (v := .int .i64 E) (by first | (simp; done) | (simp; omega) | omega) (by first | assumption | (simp [go_sem]; done) | (simp [*, go_sem]; done))
  have hc20 := g1.cell (p := ⟨w.heap.size, 1, none⟩) (v := .int .i64 F) (by first | (simp; done) | (simp; omega) | omega) (by first | assumption | (simp [go_sem]; done) | (simp [*, go_sem]; done))
  have zg1 := g1.size
  try simp at zg1
  go_wp2_with fail
  refine (HKP.out _).mono ?_
  rintro e w2 ⟨rfl, g2⟩
  have hc21 := g2.cell (p := ⟨w.heap.size, 0, none⟩) (v := .int .i64 E) (by first | (simp; done) | (simp; omega) | omega) (by first | assumption | (simp [go_sem]; done) | (simp [*, go_sem]; done))
  have hc22 := g2.cell (p := ⟨w.heap.size, 1, none⟩) (v := .int .i64 F) (by first | (simp; done) | (simp; omega) | omega) (by first | assumption | (simp [go_sem]; done) | (simp [*, go_sem]; done))
  have zg2 := g2.size
  try simp at zg2
  go_wp2_with fail
  refine (HKU.out _).mono ?_
  rintro e w3 ⟨rfl, g3⟩
  have hc23 := g3.cell (p := ⟨w.heap.size, 0, none⟩) (v := .int .i64 E) (by first | (simp; done) | (simp; omega) | omega) (by first | assumption | (simp [go_sem]; done) | (simp [*, go_sem]; done))
  have hc24 := g3.cell (p := ⟨w.heap.size, 1, none⟩) (v := .int .i64 F) (by first | (simp; done) | (simp; omega) | omega) (by first | assumption | (simp [go_sem]; done) | (simp [*, go_sem]; done))
  have zg3 := g3.size
  try simp at zg3
  go_wp2_with fail
  have hp3 : w.heap.size < w3.heap.size := G.lt g3 (G.lt g2 (G.lt g1 (by simp)))
  refine region_gw (by kernel_rfl) (by kernel_rfl) ?_
  intro W hW
  have hq3 := gw_cell (w := W) (a := ⟨w.heap.size, 0, none⟩) (x := .int .i64 E) (by rw [hW]; first | (simp; done) | (simp; omega) | omega) (by rw [hW]; first | assumption | (simp [go_sem]; done) | (simp [*, go_sem]; done))
  have hq4 := gw_cell (w := W) (a := ⟨w.heap.size, 1, none⟩) (x := .int .i64 F) (by rw [hW]; first | (simp; done) | (simp; omega) | omega) (by rw [hW]; first | assumption | (simp [go_sem]; done) | (simp [*, go_sem]; done))
  clear hW
  repeat (go_big_quiet_step (fail))
  refine wpQuiet_nil ?_
  clear hq3 hq4
  intro w4 hw4
  have hc1 := hw4.cell (p := ⟨w.heap.size, 0, none⟩) (v := .int .i64 E) hp3 (by assumption)
  have hc2 := hw4.cell (p := ⟨w.heap.size, 1, none⟩) (v := .int .i64 F) hp3 (by assumption)
  have hG4 : G w w4 := (by repeat' (first | exact G.refl _ | assumption | refine G.alloc ?_ _ | refine G.drew ?_ | refine G.drewN ?_ _ | (refine G.trans ?_ (by assumption))))
  have hps := G.lt hw4 hp3
  obtain ⟨pf, hpf⟩ : ∃ pf, pf = w.heap.size := ⟨_, rfl⟩
  rw [← hpf] at hc1 hc2 hps ⊢
  clear hw4 hpf hp3 g1 g2 g3
  go_wp2_with fail
  refine Calls.mono (P := Try.prog) (HKS.out _) ?_
  rintro e w5 ⟨rfl, g5⟩
  have hG5 := G.trans hG4 g5
  have hd1 := g5.cell hps hc1
  have hd2 := g5.cell hps hc2
  have hps5 := G.lt g5 hps
  clear hG4 g5 hc1 hc2 hps
  have t5 := HT5.out
  go_wp2_with fail
  refine Calls.mono (P := Try.prog) (HKL.out _) ?_
  rintro e w6 ⟨rfl, g6⟩
  have hG6 := G.trans hG5 g6
  go_wp2_with fail
  go_ret
  exact ⟨rfl, hG6⟩

set_option maxRecDepth 10000 in
set_option maxHeartbeats 4000000 in
theorem small_XY (x b pk y : Nat) (E F : Nat) (w : World) (hE : 2 ≤ E) (hE2 : E ≤ 8) (hF : 1 ≤ F) (hF2 : F ≤ 23) (hn : FT.nan x = false)
    (KT : ((b : Int) / 2 ^ (1 + E + F) != 0) = false)
    (KP : ∀ w, Calls Try.prog 7 #[.float .f64 x, .agg #[.int .i64 E, .int .i64 F]] w fun e w' => e = .returned (.tuple #[.int .u64 (pk : Int), .int .i64 0]) ∧ G w w')
    (KU : ∀ w, Calls Try.prog 8 #[.int .u64 (b : Int), .agg #[.int .i64 E, .int .i64 F]] w fun e w' => e = .returned (.tuple #[.float .f64 y, .int .i64 0]) ∧ G w w')
    (KS : ∀ w, Calls Try.prog 9 #[.float .f64 x, .agg #[.int .i64 E, .int .i64 F]] w fun e w' => e = .returned (.int .u64 (pk : Int)) ∧ G w w')
    (KL : ∀ w, Calls Try.prog 10 #[.int .u64 (b : Int), .agg #[.int .i64 E, .int .i64 F]] w fun e w' => e = .returned (.tuple #[.float .f64 y, .bool true]) ∧ G w w')
    (KB : ∀ w, Calls Try.prog 7 #[.float .f64 y, .agg #[.int .i64 E, .int .i64 F]] w fun e w' => e = .returned (.tuple #[.int .u64 (b : Int), .int .i64 0]) ∧ G w w')
    : Calls Try.prog 4 #[.float .f64 x, .int .u64 b, .agg #[.int .i64 E, .int .i64 F]] w fun e w' => e = .returned (.bool true) ∧ G w w' := by
  have HKP : Hid _ := KP
  have HKU : Hid _ := KU
  have HT5 : Hid _ := KT
  have HKS : Hid _ := KS
  have HKL : Hid _ := KL
  have HKB : Hid _ := KB
  have HKE : Hid _ := fun w => bits_c y y w
  rw [same_one] at HKE
  have HK1 : Hid _ := pack15
  have e1 := FT.eq_self x
  rw [hn] at e1
  have t1 : decide ((E : Int) < 2) = false := decide_eq_false (by omega)
  have t2 : decide ((8 : Int) < E) = false := decide_eq_false (by omega)
  have t3 : decide ((F : Int) < 1) = false := decide_eq_false (by omega)
  have t4 : decide ((23 : Int) < F) = false := decide_eq_false (by omega)
  clear KP KU KT KS KL KB
  go_enter Try.func4, Try.ntmps4
  go_wp2_with fail
  refine (HK1.out _).mono ?_
  rintro e w1 ⟨rfl, g1⟩
  have hc25 := g1.cell (p := ⟨w.heap.size, 0, none⟩) (v := .int .i64 E) (by first | (simp; done) | (simp; omega) | omega) (by first | assumption | (simp [go_sem]; done) | (simp [*, go_sem]; done))
  have hc26 := g1.cell (p := ⟨w.heap.size, 1, none⟩) (v := .int .i64 F) (by first | (simp; done) | (simp; omega) | omega) (by first | assumption | (simp [go_sem]; done) | (simp [*, go_sem]; done))
  have zg1 := g1.size
  try simp at zg1
  go_wp2_with fail
  refine (HKP.out _).mono ?_
  rintro e w2 ⟨rfl, g2⟩
  have hc27 := g2.cell (p := ⟨w.heap.size, 0, none⟩) (v := .int .i64 E) (by first | (simp; done) | (simp; omega) | omega) (by first | assumption | (simp [go_sem]; done) | (simp [*, go_sem]; done))
  have hc28 := g2.cell (p := ⟨w.heap.size, 1, none⟩) (v := .int .i64 F) (by first | (simp; done) | (simp; omega) | omega) (by first | assumption | (simp [go_sem]; done) | (simp [*, go_sem]; done))
  have zg2 := g2.size
  try simp at zg2
  go_wp2_with fail
  refine (HKU.out _).mono ?_
  rintro e w3 ⟨rfl, g3⟩
  have hc29 := g3.cell (p := ⟨w.heap.size, 0, none⟩) (v := .int .i64 E) (by first | (simp; done) | (simp; omega) | omega) (by first | assumption | (simp [go_sem]; done) | (simp [*, go_sem]; done))
  have hc30 := g3.cell (p := ⟨w.heap.size, 1, none⟩) (v := .int .i64 F) (by first | (simp; done) | (simp; omega) | omega) (by first | assumption | (simp [go_sem]; done) | (simp [*, go_sem]; done))
  have zg3 := g3.size
  try simp at zg3
  go_wp2_with fail
  have hp3 : w.heap.size < w3.heap.size := G.lt g3 (G.lt g2 (G.lt g1 (by simp)))
  refine region_gw (by kernel_rfl) (by kernel_rfl) ?_
  intro W hW
  have hq5 := gw_cell (w := W) (a := ⟨w.heap.size, 0, none⟩) (x := .int .i64 E) (by rw [hW]; first | (simp; done) | (simp; omega) | omega) (by rw [hW]; first | assumption | (simp [go_sem]; done) | (simp [*, go_sem]; done))
  have hq6 := gw_cell (w := W) (a := ⟨w.heap.size, 1, none⟩) (x := .int .i64 F) (by rw [hW]; first | (simp; done) | (simp; omega) | omega) (by rw [hW]; first | assumption | (simp [go_sem]; done) | (simp [*, go_sem]; done))
  clear hW
  repeat (go_big_quiet_step (fail))
  refine wpQuiet_nil ?_
  clear hq5 hq6
  intro w4 hw4
  have hc1 := hw4.cell (p := ⟨w.heap.size, 0, none⟩) (v := .int .i64 E) hp3 (by assumption)
  have hc2 := hw4.cell (p := ⟨w.heap.size, 1, none⟩) (v := .int .i64 F) hp3 (by assumption)
  have hG4 : G w w4 := (by repeat' (first | exact G.refl _ | assumption | refine G.alloc ?_ _ | refine G.drew ?_ | refine G.drewN ?_ _ | (refine G.trans ?_ (by assumption))))
  have hps := G.lt hw4 hp3
  obtain ⟨pf, hpf⟩ : ∃ pf, pf = w.heap.size := ⟨_, rfl⟩
  rw [← hpf] at hc1 hc2 hps ⊢
  clear hw4 hpf hp3 g1 g2 g3
  go_wp2_with fail
  refine Calls.mono (P := Try.prog) (HKS.out _) ?_
  rintro e w5 ⟨rfl, g5⟩
  have hG5 := G.trans hG4 g5
  have hd1 := g5.cell hps hc1
  have hd2 := g5.cell hps hc2
  have hps5 := G.lt g5 hps
  clear hG4 g5 hc1 hc2 hps
  have t5 := HT5.out
  go_wp2_with fail
  refine Calls.mono (P := Try.prog) (HKL.out _) ?_
  rintro e w6 ⟨rfl, g6⟩
  have hG6 := G.trans hG5 g6
  have hd3 := g6.cell hps5 hd1
  have hd4 := g6.cell hps5 hd2
  clear hd1 hd2 hG5 g6 hps5
  go_wp2_with fail
  refine Calls.mono (P := Try.prog) (HKB.out _) ?_
  rintro e w7 ⟨rfl, g7⟩
  have hG7 := G.trans hG6 g7
  clear hd3 hd4 hG6 g7
  go_wp2_with fail
  refine Calls.mono (P := Try.prog) (HKE.out _) ?_
  rintro e w8 ⟨rfl, g8⟩
  have hG8 := G.trans hG7 g8
  go_wp2_with fail
  go_ret
  exact ⟨rfl, hG8⟩

set_option maxRecDepth 10000 in
set_option maxHeartbeats 4000000 in
theorem small_NR (x b pk : Nat) (E F : Nat) (w : World) (hE : 2 ≤ E) (hE2 : E ≤ 8) (hF : 1 ≤ F) (hF2 : F ≤ 23) (hn : FT.nan x = true)
    (KT : ((b : Int) / 2 ^ (1 + E + F) != 0) = true)
    (KP : ∀ w, Calls Try.prog 7 #[.float .f64 x, .agg #[.int .i64 E, .int .i64 F]] w fun e w' => e = .returned (.tuple #[.int .u64 (pk : Int), .int .i64 0]) ∧ G w w')
    (KU : ∀ w, Calls Try.prog 8 #[.int .u64 (b : Int), .agg #[.int .i64 E, .int .i64 F]] w fun e w' => e = .returned (.tuple #[.float .f64 0, .int .i64 3]) ∧ G w w')
    (KW : IntKind.u64.wrap (IntKind.u64.wrap (IntKind.u64.wrap (2 ^ (E + 1)) - 1) * 2 ^ (F - 1)) = (pk : Int))
    : Calls Try.prog 4 #[.float .f64 x, .int .u64 b, .agg #[.int .i64 E, .int .i64 F]] w fun e w' => e = .returned (.bool true) ∧ G w w' := by
  have HKP : Hid _ := KP
  have HKU : Hid _ := KU
  have HT5 : Hid _ := KT
  have HWN : Hid _ := KW
  have e0 := FT.eq_zero 0
  rw [decide_eq_true (by rfl)] at e0
  have HK1 : Hid _ := pack15
  have e1 := FT.eq_self x
  rw [hn] at e1
  have t1 : decide ((E : Int) < 2) = false := decide_eq_false (by omega)
  have t2 : decide ((8 : Int) < E) = false := decide_eq_false (by omega)
  have t3 : decide ((F : Int) < 1) = false := decide_eq_false (by omega)
  have t4 : decide ((23 : Int) < F) = false := decide_eq_false (by omega)
  clear KP KU KT KW
  go_enter Try.func4, Try.ntmps4
  go_wp2_with fail
  refine (HK1.out _).mono ?_
  rintro e w1 ⟨rfl, g1⟩
  have hc31 := g1.cell (p := ⟨w.heap.size, 0, none⟩) (v := .int .i64 E) (by first | (simp; done) | (simp; omega) | omega) (by first | assumption | (simp [go_sem]; done) | (simp [*, go_sem]; done))
  have hc32 := g1.cell (p := ⟨w.heap.size, 1, none⟩) (v := .int .i64 F) (by first | (simp; done) | (simp; omega) | omega) (by first | assumption | (simp [go_sem]; done) | (simp [*, go_sem]; done))
  have zg1 := g1.size
  try simp at zg1
  go_wp2_with fail
  refine (HKP.out _).mono ?_
  rintro e w2 ⟨rfl, g2⟩
  have hc33 := g2.cell (p := ⟨w.heap.size, 0, none⟩) (v := .int .i64 E) (by first | (simp; done) | (simp; omega) | omega) (by first | assumption | (simp [go_sem]; done) | (simp [*, go_sem]; done))
  have hc34 := g2.cell (p := ⟨w.heap.size, 1, none⟩) (v := .int .i64 F) (by first | (simp; done) | (simp; omega) | omega) (by first | assumption | (simp [go_sem]; done) | (simp [*, go_sem]; done))
  have zg2 := g2.size
  try simp at zg2
  go_wp2_with fail
  refine (HKU.out _).mono ?_
  rintro e w3 ⟨rfl, g3⟩
  have hc35 := g3.cell (p := ⟨w.heap.size, 0, none⟩) (v := .int .i64 E) (by first | (simp; done) | (simp; omega) | omega) (by first | assumption | (simp [go_sem]; done) | (simp [*, go_sem]; done))
  have hc36 := g3.cell (p := ⟨w.heap.size, 1, none⟩) (v := .int .i64 F) (by first | (simp; done) | (simp; omega) | omega) (by first | assumption | (simp [go_sem]; done) | (simp [*, go_sem]; done))
  have zg3 := g3.size
  try simp at zg3
  go_wp2_with fail
  have hp3 : w.heap.size < w3.heap.size := G.lt g3 (G.lt g2 (G.lt g1 (by simp)))
  refine region_gw (by kernel_rfl) (by kernel_rfl) ?_
  intro W hW
  have hq7 := gw_cell (w := W) (a := ⟨w.heap.size, 0, none⟩) (x := .int .i64 E) (by rw [hW]; first | (simp; done) | (simp; omega) | omega) (by rw [hW]; first | assumption | (simp [go_sem]; done) | (simp [*, go_sem]; done))
  have hq8 := gw_cell (w := W) (a := ⟨w.heap.size, 1, none⟩) (x := .int .i64 F) (by rw [hW]; first | (simp; done) | (simp; omega) | omega) (by rw [hW]; first | assumption | (simp [go_sem]; done) | (simp [*, go_sem]; done))
  clear hW
  repeat (go_big_quiet_step (fail))
  refine wpQuiet_nil ?_
  clear hq7 hq8
  intro w4 hw4
  have hc1 := hw4.cell (p := ⟨w.heap.size, 0, none⟩) (v := .int .i64 E) hp3 (by assumption)
  have hc2 := hw4.cell (p := ⟨w.heap.size, 1, none⟩) (v := .int .i64 F) hp3 (by assumption)
  have hG4 : G w w4 := (by repeat' (first | exact G.refl _ | assumption | refine G.alloc ?_ _ | refine G.drew ?_ | refine G.drewN ?_ _ | (refine G.trans ?_ (by assumption))))
  have hps := G.lt hw4 hp3
  obtain ⟨pf, hpf⟩ : ∃ pf, pf = w.heap.size := ⟨_, rfl⟩
  rw [← hpf] at hc1 hc2 hps ⊢
  clear hw4 hpf hp3 g1 g2 g3
  rw [HWN.out]
  obtain ⟨w5, hw5⟩ : ∃ w5, w5 = w4 := ⟨_, rfl⟩
  rw [← hw5] at hG4 hps hc1 hc2 ⊢
  clear hw5
  have hG5 := hG4
  have hd1 := hc1
  have hd2 := hc2
  have hps5 := hps
  clear hG4 hc1 hc2 hps
  have t5 := HT5.out
  go_wp2_with fail
  go_ret
  exact ⟨rfl, hG5⟩

set_option maxRecDepth 10000 in
set_option maxHeartbeats 4000000 in
theorem small_NN (x b pk : Nat) (E F : Nat) (w : World) (hE : 2 ≤ E) (hE2 : E ≤ 8) (hF : 1 ≤ F) (hF2 : F ≤ 23) (hn : FT.nan x = true)
    (KT : ((b : Int) / 2 ^ (1 + E + F) != 0) = false)
    (KP : ∀ w, Calls Try.prog 7 #[.float .f64 x, .agg #[.int .i64 E, .int .i64 F]] w fun e w' => e = .returned (.tuple #[.int .u64 (pk : Int), .int .i64 0]) ∧ G w w')
    (KU : ∀ w, Calls Try.prog 8 #[.int .u64 (b : Int), .agg #[.int .i64 E, .int .i64 F]] w fun e w' => e = .returned (.tuple #[.float .f64 9221120237041090561, .int .i64 0]) ∧ G w w')
    (KW : IntKind.u64.wrap (IntKind.u64.wrap (IntKind.u64.wrap (2 ^ (E + 1)) - 1) * 2 ^ (F - 1)) = (pk : Int))
    (KL : ∀ w, Calls Try.prog 10 #[.int .u64 (b : Int), .agg #[.int .i64 E, .int .i64 F]] w fun e w' => e = .returned (.tuple #[.float .f64 0, .bool false]) ∧ G w w')
    : Calls Try.prog 4 #[.float .f64 x, .int .u64 b, .agg #[.int .i64 E, .int .i64 F]] w fun e w' => e = .returned (.bool true) ∧ G w w' := by
  have HKP : Hid _ := KP
  have HKU : Hid _ := KU
  have HT5 : Hid _ := KT
  have HWN : Hid _ := KW
  have HKL : Hid _ := KL
  have e0 := FT.neq_self 9221120237041090561
  rw [show FT.nan 9221120237041090561 = true from by decide] at e0
  have HK1 : Hid _ := pack15
  have e1 := FT.eq_self x
  rw [hn] at e1
  have t1 : decide ((E : Int) < 2) = false := decide_eq_false (by omega)
  have t2 : decide ((8 : Int) < E) = false := decide_eq_false (by omega)
  have t3 : decide ((F : Int) < 1) = false := decide_eq_false (by omega)
  have t4 : decide ((23 : Int) < F) = false := decide_eq_false (by omega)
  clear KP KU KT KW KL
  go_enter Try.func4, Try.ntmps4
  go_wp2_with fail
  refine (HK1.out _).mono ?_
  rintro e w1 ⟨rfl, g1⟩
  have hc37 := g1.cell (p := ⟨w.heap.size, 0, none⟩) (v := .int .i64 E) (by first | (simp; done) | (simp; omega) | omega) (by first | assumption | (simp [go_sem]; done) | (simp [*, go_sem]; done))
  have hc38 := g1.cell (p := ⟨w.heap.size, 1, none⟩) (v := .int .i64 F) (by first | (simp; done) | (simp; omega) | omega) (by first | assumption | (simp [go_sem]; done) | (simp [*, go_sem]; done))
  have zg1 := g1.size
  try simp at zg1
  go_wp2_with fail
  refine (HKP.out _).mono ?_
  rintro e w2 ⟨rfl, g2⟩
  have hc39 := g2.cell (p := ⟨w.heap.size, 0, none⟩) (v := .int .i64 E) (by first | (simp; done) | (simp; omega) | omega) (by first | assumption | (simp [go_sem]; done) | (simp [*, go_sem]; done))
  have hc40 := g2.cell (p := ⟨w.heap.size, 1, none⟩) (v := .int .i64 F) (by first | (simp; done) | (simp; omega) | omega) (by first | assumption | (simp [go_sem]; done) | (simp [*, go_sem]; done))
  have zg2 := g2.size
  try simp at zg2
  go_wp2_with fail
  refine (HKU.out _).mono ?_
  rintro e w3 ⟨rfl, g3⟩
  have hc41 := g3.cell (p := ⟨w.heap.size, 0, none⟩) (v := .int .i64 E) (by first | (simp; done) | (simp; omega) | omega) (by first | assumption | (simp [go_sem]; done) | (simp [*, go_sem]; done))
  have hc42 := g3.cell (p := ⟨w.heap.size, 1, none⟩) (v := .int .i64 F) (by first | (simp; done) | (simp; omega) | omega) (by first | assumption | (simp [go_sem]; done) | (simp [*, go_sem]; done))
  have zg3 := g3.size
  try simp at zg3
  go_wp2_with fail
  have hp3 : w.heap.size < w3.heap.size := G.lt g3 (G.lt g2 (G.lt g1 (by simp)))
  refine region_gw (by kernel_rfl) (by kernel_rfl) ?_
  intro W hW
  have hq9 := gw_cell (w := W) (a := ⟨w.heap.size, 0, none⟩) (x := .int .i64 E) (by rw [hW]; first | (simp; done) | (simp; omega) | omega) (by rw [hW]; first | assumption | (simp [go_sem]; done) | (simp [*, go_sem]; done))
  have hq10 := gw_cell (w := W) (a := ⟨w.heap.size, 1, none⟩) (x := .int .i64 F) (by rw [hW]; first | (simp; done) | (simp; omega) | omega) (by rw [hW]; first | assumption | (simp [go_sem]; done) | (simp [*, go_sem]; done))
  clear hW
  repeat (go_big_quiet_step (fail))
  refine wpQuiet_nil ?_
  clear hq9 hq10
  intro w4 hw4
  have hc1 := hw4.cell (p := ⟨w.heap.size, 0, none⟩) (v := .int .i64 E) hp3 (by assumption)
  have hc2 := hw4.cell (p := ⟨w.heap.size, 1, none⟩) (v := .int .i64 F) hp3 (by assumption)
  have hG4 : G w w4 := (by repeat' (first | exact G.refl _ | assumption | refine G.alloc ?_ _ | refine G.drew ?_ | refine G.drewN ?_ _ | (refine G.trans ?_ (by assumption))))
  have hps := G.lt hw4 hp3
  obtain ⟨pf, hpf⟩ : ∃ pf, pf = w.heap.size := ⟨_, rfl⟩
  rw [← hpf] at hc1 hc2 hps ⊢
  clear hw4 hpf hp3 g1 g2 g3
  rw [HWN.out]
  obtain ⟨w5, hw5⟩ : ∃ w5, w5 = w4 := ⟨_, rfl⟩
  rw [← hw5] at hG4 hps hc1 hc2 ⊢
  clear hw5
  have hG5 := hG4
  have hd1 := hc1
  have hd2 := hc2
  have hps5 := hps
  clear hG4 hc1 hc2 hps
  have t5 := HT5.out
  go_wp2_with fail
  refine Calls.mono (P := Try.prog) (HKL.out _) ?_
  rintro e w6 ⟨rfl, g6⟩
  have hG6 := G.trans hG5 g6
  go_wp2_with fail
  go_ret
  exact ⟨rfl, hG6⟩

set_option maxRecDepth 10000 in
set_option maxHeartbeats 4000000 in
theorem small_NY (x b pk y : Nat) (E F : Nat) (w : World) (hE : 2 ≤ E) (hE2 : E ≤ 8) (hF : 1 ≤ F) (hF2 : F ≤ 23) (hn : FT.nan x = true)
    (KT : ((b : Int) / 2 ^ (1 + E + F) != 0) = false)
    (KP : ∀ w, Calls Try.prog 7 #[.float .f64 x, .agg #[.int .i64 E, .int .i64 F]] w fun e w' => e = .returned (.tuple #[.int .u64 (pk : Int), .int .i64 0]) ∧ G w w')
    (KU : ∀ w, Calls Try.prog 8 #[.int .u64 (b : Int), .agg #[.int .i64 E, .int .i64 F]] w fun e w' => e = .returned (.tuple #[.float .f64 y, .int .i64 0]) ∧ G w w')
    (KW : IntKind.u64.wrap (IntKind.u64.wrap (IntKind.u64.wrap (2 ^ (E + 1)) - 1) * 2 ^ (F - 1)) = (pk : Int))
    (KL : ∀ w, Calls Try.prog 10 #[.int .u64 (b : Int), .agg #[.int .i64 E, .int .i64 F]] w fun e w' => e = .returned (.tuple #[.float .f64 y, .bool true]) ∧ G w w')
    (KB : ∀ w, Calls Try.prog 7 #[.float .f64 y, .agg #[.int .i64 E, .int .i64 F]] w fun e w' => e = .returned (.tuple #[.int .u64 (b : Int), .int .i64 0]) ∧ G w w')
    : Calls Try.prog 4 #[.float .f64 x, .int .u64 b, .agg #[.int .i64 E, .int .i64 F]] w fun e w' => e = .returned (.bool true) ∧ G w w' := by
  have HKP : Hid _ := KP
  have HKU : Hid _ := KU
  have HT5 : Hid _ := KT
  have HWN : Hid _ := KW
  have HKL : Hid _ := KL
  have HKB : Hid _ := KB
  have HKE : Hid _ := fun w => bits_c y y w
  rw [same_one] at HKE
  have HK1 : Hid _ := pack15
  have e1 := FT.eq_self x
  rw [hn] at e1
  have t1 : decide ((E : Int) < 2) = false := decide_eq_false (by omega)
  have t2 : decide ((8 : Int) < E) = false := decide_eq_false (by omega)
  have t3 : decide ((F : Int) < 1) = false := decide_eq_false (by omega)
  have t4 : decide ((23 : Int) < F) = false := decide_eq_false (by omega)
  clear KP KU KT KW KL KB
  go_enter Try.func4, Try.ntmps4
  go_wp2_with fail
  refine (HK1.out _).mono ?_
  rintro e w1 ⟨rfl, g1⟩
  have hc43 := g1.cell (p := ⟨w.heap.size, 0, none⟩) (v := .int .i64 E) (by first | (simp; done) | (simp; omega) | omega) (by first | assumption | (simp [go_sem]; done) | (simp [*, go_sem]; done))
  have hc44 := g1.cell (p := ⟨w.heap.size, 1, none⟩) (v := .int .i64 F) (by first | (simp; done) | (simp; omega) | omega) (by first | assumption | (simp [go_sem]; done) | (simp [*, go_sem]; done))
  have zg1 := g1.size
  try simp at zg1
  go_wp2_with fail
  refine (HKP.out _).mono ?_
  rintro e w2 ⟨rfl, g2⟩
  have hc45 := g2.cell (p := ⟨w.heap.size, 0, none⟩) (v := .int .i64 E) (by first | (simp; done) | (simp; omega) | omega) (by first | assumption | (simp [go_sem]; done) | (simp [*, go_sem]; done))
  have hc46 := g2.cell (p := ⟨w.heap.size, 1, none⟩) (v := .int .i64 F) (by first | (simp; done) | (simp; omega) | omega) (by first | assumption | (simp [go_sem]; done) | (simp [*, go_sem]; done))
  have zg2 := g2.size
  try simp at zg2
  go_wp2_with fail
  refine (HKU.out _).mono ?_
  rintro e w3 ⟨rfl, g3⟩
  have hc47 := g3.cell (p := ⟨w.heap.size, 0, none⟩) (v := .int .i64 E) (by first | (simp; done) | (simp; omega) | omega) (by first | assumption | (simp [go_sem]; done) | (simp [*, go_sem]; done))
  have hc48 := g3.cell (p := ⟨w.heap.size, 1, none⟩) (v := .int .i64 F) (by first | (simp; done) | (simp; omega) | omega) (by first | assumption | (simp [go_sem]; done) | (simp [*, go_sem]; done))
  have zg3 := g3.size
  try simp at zg3
  go_wp2_with fail
  have hp3 : w.heap.size < w3.heap.size := G.lt g3 (G.lt g2 (G.lt g1 (by simp)))
  refine region_gw (by kernel_rfl) (by kernel_rfl) ?_
  intro W hW
  have hq11 := gw_cell (w := W) (a := ⟨w.heap.size, 0, none⟩) (x := .int .i64 E) (by rw [hW]; first | (simp; done) | (simp; omega) | omega) (by rw [hW]; first | assumption | (simp [go_sem]; done) | (simp [*, go_sem]; done))
  have hq12 := gw_cell (w := W) (a := ⟨w.heap.size, 1, none⟩) (x := .int .i64 F) (by rw [hW]; first | (simp; done) | (simp; omega) | omega) (by rw [hW]; first | assumption | (simp [go_sem]; done) | (simp [*, go_sem]; done))
  clear hW
  repeat (go_big_quiet_step (fail))
  refine wpQuiet_nil ?_
  clear hq11 hq12
  intro w4 hw4
  have hc1 := hw4.cell (p := ⟨w.heap.size, 0, none⟩) (v := .int .i64 E) hp3 (by assumption)
  have hc2 := hw4.cell (p := ⟨w.heap.size, 1, none⟩) (v := .int .i64 F) hp3 (by assumption)
  have hG4 : G w w4 := (by repeat' (first | exact G.refl _ | assumption | refine G.alloc ?_ _ | refine G.drew ?_ | refine G.drewN ?_ _ | (refine G.trans ?_ (by assumption))))
  have hps := G.lt hw4 hp3
  obtain ⟨pf, hpf⟩ : ∃ pf, pf = w.heap.size := ⟨_, rfl⟩
  rw [← hpf] at hc1 hc2 hps ⊢
  clear hw4 hpf hp3 g1 g2 g3
  rw [HWN.out]
  obtain ⟨w5, hw5⟩ : ∃ w5, w5 = w4 := ⟨_, rfl⟩
  rw [← hw5] at hG4 hps hc1 hc2 ⊢
  clear hw5
  have hG5 := hG4
  have hd1 := hc1
  have hd2 := hc2
  have hps5 := hps
  clear hG4 hc1 hc2 hps
  have t5 := HT5.out
  go_wp2_with fail
  refine Calls.mono (P := Try.prog) (HKL.out _) ?_
  rintro e w6 ⟨rfl, g6⟩
  have hG6 := G.trans hG5 g6
  have hd3 := g6.cell hps5 hd1
  have hd4 := g6.cell hps5 hd2
  clear hd1 hd2 hG5 g6 hps5
  go_wp2_with fail
  refine Calls.mono (P := Try.prog) (HKB.out _) ?_
  rintro e w7 ⟨rfl, g7⟩
  have hG7 := G.trans hG6 g7
  clear hd3 hd4 hG6 g7
  go_wp2_with fail
  refine Calls.mono (P := Try.prog) (HKE.out _) ?_
  rintro e w8 ⟨rfl, g8⟩
  have hG8 := G.trans hG7 g8
  go_wp2_with fail
  go_ret
  exact ⟨rfl, hG8⟩

set_option maxRecDepth 10000 in
set_option maxHeartbeats 4000000 in
theorem small_bad (x : Nat) (b : Int) (E F : Int) (w : World) (hf : okForm E F = false)
    (KP : ∀ w, Calls Try.prog 7 #[.float .f64 x, .agg #[.int .i64 E, .int .i64 F]] w fun e w' => e = .returned (.tuple #[.int .u64 0, .int .i64 6]) ∧ G w w')
    (KU : ∀ w, Calls Try.prog 8 #[.int .u64 b, .agg #[.int .i64 E, .int .i64 F]] w fun e w' => e = .returned (.tuple #[.float .f64 0, .int .i64 6]) ∧ G w w') :
    Calls Try.prog 4 #[.float .f64 x, .int .u64 b, .agg #[.int .i64 E, .int .i64 F]] w fun e w' => e = .returned (.bool true) ∧ G w w' := by
  have HKP : Hid _ := KP
  have HKU : Hid _ := KU
  have HK1 : Hid _ := pack15
  have e0 := FT.eq_zero 0
  rw [decide_eq_true (by rfl)] at e0
  clear KP KU
  cases h1 : decide (E < 2) <;> cases h2 : decide (8 < E) <;> cases h3 : decide (F < 1) <;> cases h4 : decide (23 < F)
  · exfalso
    have := of_decide_eq_false h1
    have := of_decide_eq_false h2
    have := of_decide_eq_false h3
    have := of_decide_eq_false h4
    have : okForm E F = true := okForm_iff.2 (by omega)
    rw [hf] at this; cases this
  all_goals
    clear hf
    go_enter Try.func4, Try.ntmps4
    go_wp2_with fail
    refine (HK1.out _).mono ?_
    rintro e w1 ⟨rfl, g1⟩
    have hc49 := g1.cell (p := ⟨w.heap.size, 0, none⟩) (v := .int .i64 E) (by first | (simp; done) | (simp; omega) | omega) (by first | assumption | (simp [go_sem]; done) | (simp [*, go_sem]; done))
    have hc50 := g1.cell (p := ⟨w.heap.size, 1, none⟩) (v := .int .i64 F) (by first | (simp; done) | (simp; omega) | omega) (by first | assumption | (simp [go_sem]; done) | (simp [*, go_sem]; done))
    have zg1 := g1.size
    try simp at zg1
    go_wp2_with fail
    refine (HKP.out _).mono ?_
    rintro e w2 ⟨rfl, g2⟩
    have hc51 := g2.cell (p := ⟨w.heap.size, 0, none⟩) (v := .int .i64 E) (by first | (simp; done) | (simp; omega) | omega) (by first | assumption | (simp [go_sem]; done) | (simp [*, go_sem]; done))
    have hc52 := g2.cell (p := ⟨w.heap.size, 1, none⟩) (v := .int .i64 F) (by first | (simp; done) | (simp; omega) | omega) (by first | assumption | (simp [go_sem]; done) | (simp [*, go_sem]; done))
    have zg2 := g2.size
    try simp at zg2
    go_wp2_with fail
    refine (HKU.out _).mono ?_
    rintro e w3 ⟨rfl, g3⟩
    have hc53 := g3.cell (p := ⟨w.heap.size, 0, none⟩) (v := .int .i64 E) (by first | (simp; done) | (simp; omega) | omega) (by first | assumption | (simp [go_sem]; done) | (simp [*, go_sem]; done))
    have hc54 := g3.cell (p := ⟨w.heap.size, 1, none⟩) (v := .int .i64 F) (by first | (simp; done) | (simp; omega) | omega) (by first | assumption | (simp [go_sem]; done) | (simp [*, go_sem]; done))
    have zg3 := g3.size
    try simp at zg3
    go_wp2_with fail
    go_ret
    exact ⟨rfl, (by repeat' (first | exact G.refl _ | assumption | refine G.alloc ?_ _ | refine G.drew ?_ | refine G.drewN ?_ _ | (refine G.trans ?_ (by assumption))))⟩


theorem want_nan (E F : Nat) (hE : 2 ≤ E) (hE2 : E ≤ 8) (hF : 1 ≤ F) (hF2 : F ≤ 23) : IntKind.u64.wrap (IntKind.u64.wrap (IntKind.u64.wrap (2 ^ (E + 1)) - 1) * 2 ^ (F - 1)) = (((2 ^ E - 1) * 2 ^ F + 2 ^ (F - 1) : Nat) : Int) := by
  have a := pow_bd (show E + 1 ≤ 9 by omega)
  have b := pow_bd (show F - 1 ≤ 22 by omega)
  have e1 : IntKind.u64.wrap (2 ^ (E + 1)) = 2 ^ (E + 1) := IntWalk.u64_in _ (by omega)
  have e2 : IntKind.u64.wrap ((2 : Int) ^ (E + 1) - 1) = 2 ^ (E + 1) - 1 := IntWalk.u64_in _ (by omega)
  rw [e1, e2]
  have c1 : 1 ≤ 2 ^ E := Nat.two_pow_pos E
  have c2 : 2 ^ (E + 1) = 2 * 2 ^ E := by rw [Nat.pow_succ, Nat.mul_comm]
  have c3 : 2 ^ F = 2 * 2 ^ (F - 1) := by
    obtain ⟨d, hd⟩ : ∃ d, F = d + 1 := ⟨F - 1, by omega⟩
    rw [hd, Nat.add_sub_cancel, Nat.pow_succ, Nat.mul_comm]
  have c4 : 2 ^ E ≤ 2 ^ 8 := pow_le hE2
  have c5 : 2 ^ (F - 1) ≤ 2 ^ 22 := pow_le (by omega)
  have e3 : ((2 : Int) ^ (E + 1) - 1) * 2 ^ (F - 1) = (((2 * 2 ^ E - 1) * 2 ^ (F - 1) : Nat) : Int) := by
    rw [FT.ipow, FT.ipow, c2]
    have h : ((2 * 2 ^ E : Nat) : Int) - 1 = ((2 * 2 ^ E - 1 : Nat) : Int) := by omega
    rw [h, ← Int.natCast_mul]
  have e4 : (2 ^ E - 1) * 2 ^ F + 2 ^ (F - 1) = (2 * 2 ^ E - 1) * 2 ^ (F - 1) := by
    rw [c3, ← Nat.mul_assoc, ← Nat.succ_mul]; congr 1; omega
  have e5 : (2 * 2 ^ E - 1) * 2 ^ (F - 1) ≤ 2 ^ 9 * 2 ^ 22 := Nat.mul_le_mul (by omega) c5
  rw [e3, e4]
  generalize (2 * 2 ^ E - 1) * 2 ^ (F - 1) = I at *
  exact IntWalk.u64_in _ (by omega)

theorem pack_nan {x E F : Nat} (hf : okForm E F = true) (hx : x < 2 ^ 64) (hn : FT.nan x = true) (w : World) :
    Calls Try.prog 7 #[.float .f64 x, .agg #[.int .i64 E, .int .i64 F]] w fun e w' => e = .returned (.tuple #[.int .u64 (((2 ^ E - 1) * 2 ^ F + 2 ^ (F - 1) : Nat) : Int), .int .i64 0]) ∧ G w w' := by
  have hrf := FT.rung_fields x
  have hrl := FT.rung_lt x
  have h1 : FT.infR < FT.rung x := by unfold FT.nan at hn; exact of_decide_eq_true hn
  unfold FT.infR at h1
  have he : x / 2 ^ 52 % 2 ^ 11 = 2047 := by omega
  exact pack_nan_c x _ E F w hf hx he rfl (by omega)

/-- The law. -/
theorem small_law_c (x b : Nat) (E F : Int) (w : World) (hx : x < 2 ^ 64) :
    Calls Try.prog 4 #[.float .f64 x, .int .u64 b, .agg #[.int .i64 E, .int .i64 F]] w fun e w' => e = .returned (.bool true) ∧ G w w' := by
  cases hf : okForm E F
  · exact small_bad x b E F w hf (fun w => pack_bad_c x E F w hf) (fun w => unpack_bad_c b E F w hf)
  · have hk := okForm_iff.1 hf
    obtain ⟨E, rfl⟩ := Int.eq_ofNat_of_zero_le (show 0 ≤ E by omega)
    obtain ⟨F, rfl⟩ := Int.eq_ofNat_of_zero_le (show 0 ≤ F by omega)
    have hE : 2 ≤ E := by omega
    have hE2 : E ≤ 8 := by omega
    have hF : 1 ≤ F := by omega
    have hF2 : F ≤ 23 := by omega
    have hsum : 1 + E + F = E + F + 1 := by omega
    have hT : ∀ h : Bool, (2 ^ (E + F + 1) ≤ b ↔ h = true) → ((b : Int) / 2 ^ (1 + E + F) != 0) = h := by
      intro h hh
      rw [hsum, FT.ipow, ← Int.natCast_ediv]
      have hp := Nat.two_pow_pos (E + F + 1)
      by_cases hc : 2 ^ (E + F + 1) ≤ b
      · have h1 : 1 ≤ b / 2 ^ (E + F + 1) := (Nat.le_div_iff_mul_le hp).2 (by omega)
        rw [hh.1 hc]
        generalize b / 2 ^ (E + F + 1) = z at *
        exact bne_iff_ne.2 (by omega)
      · have h1 : b / 2 ^ (E + F + 1) = 0 := Nat.div_eq_of_lt (by omega)
        have h2 : h = false := by cases h; rfl; exact absurd (hh.2 rfl) hc
        rw [h1, h2]; rfl
    by_cases hr : 2 ^ (E + F + 1) ≤ b
    · have KT := hT true (by simp [hr])
      have KU := fun w => unpack_range_c b E F w hf hr
      cases hn : FT.nan x
      · obtain ⟨pk, KP, KS⟩ := pack_num hf hx hn
        exact small_XR x b pk E F w hE hE2 hF hF2 hn KT KP KU KS
      · have KP := pack_nan hf hx hn
        exact small_NR x b _ E F w hE hE2 hF hF2 hn KT KP KU (want_nan E F hE hE2 hF hF2)
    · have KT := hT false (by simp; omega)
      by_cases hnn : b / 2 ^ F % 2 ^ E = 2 ^ E - 1 ∧ b % 2 ^ F ≠ 0
      · have KU := fun w => unpack_nan_c b _ _ _ E F w hf hr rfl rfl rfl hnn.1 hnn.2
        have KL := fun w => large_nan b _ _ E F w hE hE2 hF hF2 (by omega) _ rfl rfl rfl hnn.1 hnn.2
        cases hn : FT.nan x
        · obtain ⟨pk, KP, KS⟩ := pack_num hf hx hn
          exact small_XN x b pk E F w hE hE2 hF hF2 hn KT KP KU KS KL
        · have KP := pack_nan hf hx hn
          exact small_NN x b _ E F w hE hE2 hF hF2 hn KT KP KU (want_nan E F hE hE2 hF hF2) KL
      · obtain ⟨y, -, -, KU, KL, KB⟩ := unpack_num hf (by omega) hnn
        cases hn : FT.nan x
        · obtain ⟨pk, KP, KS⟩ := pack_num hf hx hn
          exact small_XY x b pk y E F w hE hE2 hF hF2 hn KT KP KU KS KL KB
        · have KP := pack_nan hf hx hn
          exact small_NY x b _ y E F w hE hE2 hF hF2 hn KT KP KU (want_nan E F hE hE2 hF hF2) KL KB

end Go.Proofs.Ytkimdkgijfknlaa
