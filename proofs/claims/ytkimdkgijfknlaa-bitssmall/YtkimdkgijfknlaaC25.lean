/- What is proved here: contracts of the reference: Large of what is finite, over this seat's translation. -/
import Derived.Test.YtkimdkgijfknlaaC24
namespace Go.Proofs.Ytkimdkgijfknlaa
open Go.ChangeShapes Go.WideShapes Go.ChangeAt Go.RowKit
open BN
attribute [local go_sem] frombits_r tobits_r unary_negf

set_option maxRecDepth 10000 in
set_option maxHeartbeats 4000000 in
theorem large_sub (b ex fr : Nat) (q : Nat) (P : Int) (E F : Nat) (w : World) (hE : 2 ≤ E) (hE2 : E ≤ 8) (hF : 1 ≤ F) (hF2 : F ≤ 23) (h0 : b < 2 ^ (E + F + 1)) (s : Bool) (hs : (b / 2 ^ (E + F) % 2 == 1) = s) (hex : b / 2 ^ F % 2 ^ E = ex) (hfr : b % 2 ^ F = fr)
    (hlt : ex < 2 ^ E - 1) (hz : ex = 0) (hqe : q = fr) (hP : P = 1 - (2 ^ (E - 1) - 1) - F) :
    Calls Try.prog 10 #[.int .u64 b, .agg #[.int .i64 E, .int .i64 F]] w fun e w' => e = .returned (.tuple #[.float .f64 (if s then nearV 11 52 q P + 2 ^ 63 else nearV 11 52 q P), .bool true]) ∧ G w w' := by
  have hb64 : b < 2 ^ 63 := Nat.lt_of_lt_of_le h0 (Nat.pow_le_pow_right (by omega) (by omega))
  have HF1 : Hid (wrap64 (bits BinOp.and IntKind.u64 (b : Int) (IntKind.u64.wrap (IntKind.u64.wrap (2 ^ F) - 1))) = (fr : Int)) := by
    show wrap64 (bits BinOp.and IntKind.u64 (b : Int) (IntKind.u64.wrap (IntKind.u64.wrap (2 ^ F) - 1))) = (fr : Int)
    rw [and_w b F hb64 hF2, hfr]
  have HX1 : Hid (wrap64 (bits BinOp.and IntKind.u64 ((b : Int) / 2 ^ F) (IntKind.u64.wrap (IntKind.u64.wrap (2 ^ E) - 1))) = (ex : Int)) := by
    show wrap64 (bits BinOp.and IntKind.u64 ((b : Int) / 2 ^ F) (IntKind.u64.wrap (IntKind.u64.wrap (2 ^ E) - 1))) = (ex : Int)
    have h1 : b / 2 ^ F ≤ b := Nat.div_le_self _ _
    rw [FT.ipow F, ← Int.natCast_ediv, and_w (b / 2 ^ F) E (by omega) (by omega), hex]
  have hT1 : ((b : Int) / 2 ^ (E + F) == 1) = s := by
    rw [FT.ipow, ← Int.natCast_ediv]
    have h1 : b / 2 ^ (E + F) < 2 := by rw [Nat.div_lt_iff_lt_mul (Nat.two_pow_pos _)]; rw [Nat.pow_succ] at h0; omega
    rw [Nat.mod_eq_of_lt h1] at hs
    rw [← hs]
    generalize b / 2 ^ (E + F) = z at *
    have : z = 0 ∨ z = 1 := by omega
    rcases this with h | h <;> subst h <;> rfl
  obtain ⟨bi, hbi⟩ : ∃ bi : Int, bi = 2 ^ (E - 1) - 1 := ⟨_, rfl⟩
  obtain ⟨gr, hgr⟩ : ∃ gr : Int, gr = 2 ^ E - 1 := ⟨_, rfl⟩
  have hMb : (1 : Int) ≤ 2 ^ (E - 1) ∧ (2 : Int) ^ (E - 1) ≤ 128 := pow_bd (show E - 1 ≤ 7 by omega)
  have hM2 : (2 : Int) ≤ 2 ^ (E - 1) := by
    have : 2 ^ 1 ≤ 2 ^ (E - 1) := pow_le (by omega)
    rw [FT.ipow]; omega
  have hEb : (1 : Int) ≤ 2 ^ E ∧ (2 : Int) ^ E ≤ 256 := pow_bd hE2
  have hBW : wrap64 (wrap64 (2 ^ (E - 1)) - 1) = bi := by
    generalize (2 : Int) ^ (E - 1) = M at *
    have e : wrap64 M = M := IntWalk.wrap64_in _ (by omega)
    rw [e, hbi]
    exact IntWalk.wrap64_in _ (by omega)
  have hGW : wrap64 (wrap64 (2 ^ E) - 1) = gr := by
    generalize (2 : Int) ^ E = M at *
    have e : wrap64 M = M := IntWalk.wrap64_in _ (by omega)
    rw [e, hgr]
    exact IntWalk.wrap64_in _ (by omega)
  have HT1 : Hid _ := hT1
  have HBW : Hid _ := hBW
  have HGW : Hid _ := hGW
  clear hT1 hBW hGW
  have hb1 : 1 ≤ bi := by omega
  have hb2 : bi ≤ 127 := by omega
  have hgn : gr = ((2 ^ E - 1 : Nat) : Int) := by
    have := Nat.two_pow_pos E
    rw [hgr, FT.ipow]; omega
  have HTA : Hid (((ex : Int) == gr) = false) := by show ((ex : Int) == gr) = false; rw [hgn]; simp; omega
  have HTC : Hid (((ex : Int) == 0) = true) := by show ((ex : Int) == 0) = true; simp; omega
  have hF23 : 2 ^ F ≤ 2 ^ 23 := pow_le hF2
  have hfl : fr < 2 ^ F := by rw [← hfr]; exact Nat.mod_lt _ (Nat.two_pow_pos _)
  have hq : q < 2 ^ 53 := by omega
  rw [← hbi] at hP
  have hP1 : -1000 ≤ P := by omega
  have hP2 : P ≤ 1000 := by omega
  have HWB : Hid (IntKind.i64.wrap (IntKind.i64.wrap (1 - bi) - F) = P) := by
    show IntKind.i64.wrap (IntKind.i64.wrap (1 - bi) - F) = P
    rw [IntWalk.i64_in (1 - bi) (by omega), IntWalk.i64_in _ (by omega), hP]
  have HWA : Hid (True) := trivial
  obtain ⟨KB, hKB⟩ : ∃ KB : Nat, KB = 110 := ⟨_, rfl⟩
  obtain ⟨ya, yb, N, D, hya, hyb, hbd, hnd, hft⟩ := mul_facts (q := q) (P := P) hq hP1 hP2 KB hKB
  have HBD : Hid _ := hbd
  have HND : Hid _ := hnd
  have HRT : Hid _ := fun w => newRat_c w (q : Int) (by omega)
  have HPW : Hid _ := pow2_c P (by omega) (by omega)
  rw [← hya, ← hyb] at HPW
  have hrl := nearV_le q P
  obtain ⟨r, hr⟩ : ∃ r, r = nearV 11 52 q P := ⟨_, rfl⟩
  have HFT : Hid (∀ w1 p, p < w1.heap.size → RatIs w1 p (N : Int) (D : Int) → Calls Try.prog 41 #[.pointer (some ⟨p, 0, none⟩)] w1 (RetFl w1 r)) := by
    show ∀ w1 p, p < w1.heap.size → RatIs w1 p (N : Int) (D : Int) → Calls Try.prog 41 #[.pointer (some ⟨p, 0, none⟩)] w1 (RetFl w1 r)
    intro w1 p hp hrt
    rcases hft with ⟨h1, h2⟩ | ⟨h1, h2, h3, h4, h5, h6, h7⟩
    · rw [h2] at hrt
      have e : r = 0 := by rw [hr, h1]; unfold nearV; rw [if_pos rfl]
      rw [e]
      exact float64_zero w1 p D hrt
    · have := float64_c w1 p KB (N : Int) D (by omega) (by omega) h2 h3 h4 h5 h6 hp hrt
      rw [h7, ← hr, decide_eq_false (by omega)] at this
      exact this
  rw [← hr]
  rw [← hr] at hrl
  have hng := negFloat_wrd r (by omega)
  obtain ⟨rn, hrn⟩ : ∃ rn, rn = r + 2 ^ 63 := ⟨_, rfl⟩
  rw [← hrn]
  have HNG : Hid (Op.negFloat .f64 r = rn) := by show Op.negFloat .f64 r = rn; rw [hng, hrn]; rfl
  clear hng hrn
  clear hya hyb hbd hnd hft hr hrl hq hP1 hP2
  subst hqe
  clear hs hex hfr hlt hbi hgr hgn hMb hM2 hEb h0 hb64 hF23 hfl hP
  go_enter Try.func10, Try.ntmps10
  go_wp2_with fail
  refine region_gw (by kernel_rfl) (by kernel_rfl) ?_
  intro W hW
  have hq35 := gw_cell (w := W) (a := ⟨w.heap.size, 0, none⟩) (x := .int .i64 E) (by rw [hW]; first | (simp; done) | (simp; omega) | omega) (by rw [hW]; first | assumption | (simp [go_sem]; done) | (simp [*, go_sem]; done))
  have hq36 := gw_cell (w := W) (a := ⟨w.heap.size, 1, none⟩) (x := .int .i64 F) (by rw [hW]; first | (simp; done) | (simp; omega) | omega) (by rw [hW]; first | assumption | (simp [go_sem]; done) | (simp [*, go_sem]; done))
  clear hW
  repeat (go_big_quiet_step (fail))
  refine wpQuiet_nil ?_
  clear hq35 hq36
  intro w2 hw2
  have hc1 := hw2.cell (p := ⟨w.heap.size, 0, none⟩) (v := .int .i64 E) (by simp) (by simp [go_sem])
  have hc2 := hw2.cell (p := ⟨w.heap.size, 1, none⟩) (v := .int .i64 F) (by simp) (by simp [go_sem])
  have hG2 : G w w2 := (by repeat' (first | exact G.refl _ | assumption | refine G.alloc ?_ _ | refine G.drew ?_ | refine G.drewN ?_ _ | (refine G.trans ?_ (by assumption))))
  have hps : w.heap.size < w2.heap.size := by have := hw2.size; simp at this; omega
  obtain ⟨pf, hpf⟩ : ∃ pf, pf = w.heap.size := ⟨_, rfl⟩
  rw [← hpf] at hc1 hc2 hps ⊢
  clear hw2 hpf
  rw [HF1.out, HX1.out]
  clear HF1 HX1
  have hT1 := HT1.out
  have hBW := HBW.out
  have hGW := HGW.out
  clear HT1 HBW HGW
  have t1 := HTA.out
  have t3 := HTC.out
  subst hz
  go_wp2_with fail
  apply share
  · intro LX
    refine region_J 10 (G w2) (by kernel_rfl) (by first | exact (G.refl _).drew | exact G.drew (by assumption)) ?_
    intro hSh
    refine wpAnyJ_take (i := 1) (v := ?_) rfl (by kernel_rfl) (by kernel_rfl) (by kernel_rfl) (by kernel_rfl) (by kernel_rfl) (by kernel_rfl) (by kernel_rfl) (fun _ _ _ h => h) (Or.inl ⟨by rfl, ?_⟩) (by assumption) ?_
    rotate_left
    · intro wq hwq
      have hq1 := G.cell (p := ⟨pf, 0, none⟩) (v := .int .i64 E) hwq (by first | assumption | (simp; done) | (simp; omega) | omega) (by assumption)
      have hq2 := G.cell (p := ⟨pf, 1, none⟩) (v := .int .i64 F) hwq (by first | assumption | (simp; done) | (simp; omega) | omega) (by assumption)
      first | (go_simp; done) | (go_simp; with_reducible rfl)
    try simp only [Act.put, List.setIfInBounds_toArray, List.set_cons_zero, List.set_cons_succ]
    refine wpAnyJ_take (i := 3) (v := ?_) rfl (by kernel_rfl) (by kernel_rfl) (by kernel_rfl) (by kernel_rfl) (by kernel_rfl) (by kernel_rfl) (by kernel_rfl) (fun _ _ _ h => h) (Or.inl ⟨by rfl, ?_⟩) (by assumption) ?_
    rotate_left
    · intro wq hwq
      have hq3 := G.cell (p := ⟨pf, 0, none⟩) (v := .int .i64 E) hwq (by first | assumption | (simp; done) | (simp; omega) | omega) (by assumption)
      have hq4 := G.cell (p := ⟨pf, 1, none⟩) (v := .int .i64 F) hwq (by first | assumption | (simp; done) | (simp; omega) | omega) (by assumption)
      first | (go_simp; done) | (go_simp; with_reducible rfl)
    try simp only [Act.put, List.setIfInBounds_toArray, List.set_cons_zero, List.set_cons_succ]
    refine wpAnyJ_take (i := 4) (v := ?_) rfl (by kernel_rfl) (by kernel_rfl) (by kernel_rfl) (by kernel_rfl) (by kernel_rfl) (by kernel_rfl) (by kernel_rfl) (fun _ _ _ h => h) (Or.inl ⟨by rfl, ?_⟩) (by assumption) ?_
    rotate_left
    · intro wq hwq
      have hq5 := G.cell (p := ⟨pf, 0, none⟩) (v := .int .i64 E) hwq (by first | assumption | (simp; done) | (simp; omega) | omega) (by assumption)
      have hq6 := G.cell (p := ⟨pf, 1, none⟩) (v := .int .i64 F) hwq (by first | assumption | (simp; done) | (simp; omega) | omega) (by assumption)
      first | (go_simp; done) | (go_simp; with_reducible rfl)
    try simp only [Act.put, List.setIfInBounds_toArray, List.set_cons_zero, List.set_cons_succ]
    refine wpAnyJ_take (i := 5) (v := ?_) rfl (by kernel_rfl) (by kernel_rfl) (by kernel_rfl) (by kernel_rfl) (by kernel_rfl) (by kernel_rfl) (by kernel_rfl) (fun _ _ _ h => h) (Or.inl ⟨by rfl, ?_⟩) (by assumption) ?_
    rotate_left
    · intro wq hwq
      have hq7 := G.cell (p := ⟨pf, 0, none⟩) (v := .int .i64 E) hwq (by first | assumption | (simp; done) | (simp; omega) | omega) (by assumption)
      have hq8 := G.cell (p := ⟨pf, 1, none⟩) (v := .int .i64 F) hwq (by first | assumption | (simp; done) | (simp; omega) | omega) (by assumption)
      first | (go_simp; done) | (go_simp; with_reducible rfl)
    try simp only [Act.put, List.setIfInBounds_toArray, List.set_cons_zero, List.set_cons_succ]
    refine wpAnyJ_take (i := 6) (v := ?_) rfl (by kernel_rfl) (by kernel_rfl) (by kernel_rfl) (by kernel_rfl) (by kernel_rfl) (by kernel_rfl) (by kernel_rfl) (fun _ _ _ h => h) (Or.inl ⟨by rfl, ?_⟩) (by assumption) ?_
    rotate_left
    · intro wq hwq
      have hq9 := G.cell (p := ⟨pf, 0, none⟩) (v := .int .i64 E) hwq (by first | assumption | (simp; done) | (simp; omega) | omega) (by assumption)
      have hq10 := G.cell (p := ⟨pf, 1, none⟩) (v := .int .i64 F) hwq (by first | assumption | (simp; done) | (simp; omega) | omega) (by assumption)
      first | (go_simp; done) | (go_simp; with_reducible rfl)
    try simp only [Act.put, List.setIfInBounds_toArray, List.set_cons_zero, List.set_cons_succ]
    refine wpAnyJ_take (i := 7) (v := ?_) rfl (by kernel_rfl) (by kernel_rfl) (by kernel_rfl) (by kernel_rfl) (by kernel_rfl) (by kernel_rfl) (by kernel_rfl) (fun _ _ _ h => h) (Or.inl ⟨by rfl, ?_⟩) (by assumption) ?_
    rotate_left
    · intro wq hwq
      have hq11 := G.cell (p := ⟨pf, 0, none⟩) (v := .int .i64 E) hwq (by first | assumption | (simp; done) | (simp; omega) | omega) (by assumption)
      have hq12 := G.cell (p := ⟨pf, 1, none⟩) (v := .int .i64 F) hwq (by first | assumption | (simp; done) | (simp; omega) | omega) (by assumption)
      first | (go_simp; done) | (go_simp; with_reducible rfl)
    try simp only [Act.put, List.setIfInBounds_toArray, List.set_cons_zero, List.set_cons_succ]
    show wpAnyJ _ _ _ _ _ _ _ _ _ w2.drew
    try rw [hBW]
    try rw [HWA.out]
    rw [HWB.out]
    have hS5 := hSh
    generalize w2.drew = w5 at *
    clear hSh
    refine wpAnyJ_two (i := 0) (j := 2) (by kernel_rfl) rfl rfl ?_ ?_
    · skip
      intro K hK
      go_simp
      refine hK.out _ _ (Or.inr (hS5.alloc _)) ?_
      clear hK K
      have hZ6 := RatZ.new w5 64
      have hS6 := hS5.alloc (.cells #[.bool false, .slice none 0 0, .bool false, .slice none 0 0] 64)
      have hzs6 : w5.heap.size < (w5.alloc (.cells #[.bool false, .slice none 0 0, .bool false, .slice none 0 0] 64)).heap.size := by simp
      obtain ⟨pq, hpq⟩ : ∃ pq, pq = w5.heap.size := ⟨_, rfl⟩
      rw [← hpq] at hZ6 hzs6 ⊢
      have hpq0 : w2.heap.size ≤ pq := by have := hS5.size; omega
      clear hpq
      generalize w5.alloc (.cells #[.bool false, .slice none 0 0, .bool false, .slice none 0 0] 64) = w6 at *
      refine wpAnyJ_next (i := 2) (by kernel_rfl) rfl ?_
      intro K hK
      go_simp
      go_wp2_with (go_at_call 40; refine Calls.mono (P := Try.prog) (HRT.out w6) ?_; intro e w7 hx; obtain ⟨p1, rfl, hg7, -, hrs7, hR7⟩ := hx)
      refine hK.out _ _ (Or.inr (G.trans hS6 hg7)) ?_
      clear hK K
      have hS7 := G.trans hS6 hg7
      have hZ7 := hZ6.G hzs6 hg7
      have hzs7 := G.lt hg7 hzs6
      clear hg7
      refine wpAnyJ_next (i := 8) (by kernel_rfl) rfl ?_
      intro K hK
      go_simp
      go_wp2_with (go_at_call 30; refine Calls.mono (P := Try.prog) (HPW.out w7) ?_; intro e w8 hx; obtain ⟨p2, rfl, hg8, -, hks8, hP8⟩ := hx)
      refine hK.out _ _ (Or.inr (G.trans hS7 hg8)) ?_
      clear hK K
      have hS8 := G.trans hS7 hg8
      have hZ8 := hZ7.G hzs7 hg8
      have hzs8 := G.lt hg8 hzs7
      have hR8 := hR7.G hrs7 hg8
      have hrs8 := G.lt hg8 hrs7
      clear hg8
      have HQ : Hid _ := mulR_c w8 pq p1 p2 0 0 (q : Int) (ya : Int) 1 yb KB (by omega) HBD.out.1 HBD.out.2.1 HBD.out.2.2.1 HBD.out.2.2.2.1 (by omega) HBD.out.2.2.2.2 hzs8 hrs8 hks8 hZ8.rat hR8 hP8
      rw [← HND.out.1, ← HND.out.2] at HQ
      clear hR8 hP8 hZ8 hrs8 hks8
      try clear hR7
      try clear hR6
      try clear hR5
      try clear hP7
      try clear hZ7
      try clear hZ6
      try clear hrs7
      try clear hrs6
      try clear hks7
      try clear hzs7
      try clear hzs6
      try clear hS7
      try clear hS6
      clear hS5
      refine wpAnyJ_next (i := 9) (by kernel_rfl) rfl ?_
      intro K hK
      go_simp
      go_wp2_with (go_at_call 39; refine Calls.mono (P := Try.prog) HQ.out ?_; intro e w9 hx; obtain ⟨rfl, hg9, hR9⟩ := hx)
      have hS9 := GX.fresh hS8 hg9 hpq0
      have hqs9 := Nat.lt_of_lt_of_le hzs8 hg9.size
      refine hK.out _ _ (Or.inr hS9) ?_
      clear hK K hS8 hg9 hpq0 hzs8 HQ
      have HFQ : Hid _ := HFT.out w9 pq hqs9 hR9
      clear hR9 hqs9
      refine wpAnyJ_next (i := 10) (by kernel_rfl) rfl ?_
      intro K hK
      go_simp
      go_wp2_with (go_at_call 41; refine Calls.mono (P := Try.prog) HFQ.out ?_; intro e w10 hx; obtain ⟨x, rfl, hg10⟩ := hx)
      refine hK.out _ _ (Or.inl (by decide)) ?_
      have hG10 := G.trans (G.trans hG2 hS9) hg10
      clear hK K hg10 hS9 HFQ
      refine wpAnyJ_next (i := 11) (by kernel_rfl) rfl ?_
      intro K hK
      go_simp
      refine hK.out _ _ (Or.inl (by decide)) ?_
      clear hK K
      refine wpAnyJ_two (i := 12) (j := 13) (by kernel_rfl) rfl rfl ?_ ?_
      · intro K hK
        go_simp
        refine hK.out _ _ (Or.inl (by decide)) ?_
        clear hK K
        refine wpAnyJ_two (i := 13) (j := 14) (by kernel_rfl) rfl rfl ?_ ?_
        · intro K hK
          go_simp
          refine hK.out _ _ (Or.inl (by decide)) ?_
          clear hK K
          refine wpAnyJ_next (i := 14) (by kernel_rfl) rfl ?_
          intro K hK
          go_simp
          refine hK.out _ _ (Or.inl (by decide)) ?_
          clear hK K
          refine wpAnyJ_done (by kernel_rfl) ?_ _
          revert hG10
          revert x
          revert p2
          revert p1
          revert pq
          revert w10
          exact LX.out
        · intro K hK
          go_simp
          refine hK.out _ _ (Or.inl (by decide)) ?_
          clear hK K
          refine wpAnyJ_next (i := 13) (by kernel_rfl) rfl ?_
          intro K hK
          go_simp
          refine hK.out _ _ (Or.inl (by decide)) ?_
          clear hK K
          refine wpAnyJ_done (by kernel_rfl) ?_ _
          revert hG10
          revert x
          revert p2
          revert p1
          revert pq
          revert w10
          exact LX.out
      · intro K hK
        go_simp
        refine hK.out _ _ (Or.inl (by decide)) ?_
        clear hK K
        refine wpAnyJ_next (i := 12) (by kernel_rfl) rfl ?_
        intro K hK
        go_simp
        refine hK.out _ _ (Or.inl (by decide)) ?_
        clear hK K
        refine wpAnyJ_next (i := 14) (by kernel_rfl) rfl ?_
        intro K hK
        go_simp
        refine hK.out _ _ (Or.inl (by decide)) ?_
        clear hK K
        refine wpAnyJ_done (by kernel_rfl) ?_ _
        revert hG10
        revert x
        revert p2
        revert p1
        revert pq
        revert w10
        exact LX.out
    · as_aux_lemma =>
        intro K hK
        go_simp
        go_wp2_with (go_at_call 40; refine Calls.mono (P := Try.prog) (HRT.out w5) ?_; intro e w6 hx; obtain ⟨p1, rfl, hg6, -, hrs6, hR6⟩ := hx)
        refine hK.out _ _ (Or.inr (G.trans hS5 hg6)) ?_
        clear hK K
        have hS6 := G.trans hS5 hg6
        clear hg6
        refine wpAnyJ_two (i := 0) (j := 8) (by kernel_rfl) rfl rfl ?_ ?_
        · as_aux_lemma =>
            intro K hK
            go_simp
            refine hK.out _ _ (Or.inr (hS6.alloc _)) ?_
            clear hK K
            have hZ7 := RatZ.new w6 64
            have hS7 := hS6.alloc (.cells #[.bool false, .slice none 0 0, .bool false, .slice none 0 0] 64)
            have hzs7 : w6.heap.size < (w6.alloc (.cells #[.bool false, .slice none 0 0, .bool false, .slice none 0 0] 64)).heap.size := by simp
            obtain ⟨pq, hpq⟩ : ∃ pq, pq = w6.heap.size := ⟨_, rfl⟩
            rw [← hpq] at hZ7 hzs7 ⊢
            have hpq0 : w2.heap.size ≤ pq := by have := hS6.size; omega
            have hR7 := hR6.G hrs6 ((G.refl w6).alloc (.cells #[.bool false, .slice none 0 0, .bool false, .slice none 0 0] 64))
            have hrs7 := G.lt ((G.refl w6).alloc (.cells #[.bool false, .slice none 0 0, .bool false, .slice none 0 0] 64)) hrs6
            clear hpq
            generalize w6.alloc (.cells #[.bool false, .slice none 0 0, .bool false, .slice none 0 0] 64) = w7 at *
            refine wpAnyJ_next (i := 8) (by kernel_rfl) rfl ?_
            intro K hK
            go_simp
            go_wp2_with (go_at_call 30; refine Calls.mono (P := Try.prog) (HPW.out w7) ?_; intro e w8 hx; obtain ⟨p2, rfl, hg8, -, hks8, hP8⟩ := hx)
            refine hK.out _ _ (Or.inr (G.trans hS7 hg8)) ?_
            clear hK K
            have hS8 := G.trans hS7 hg8
            have hZ8 := hZ7.G hzs7 hg8
            have hzs8 := G.lt hg8 hzs7
            have hR8 := hR7.G hrs7 hg8
            have hrs8 := G.lt hg8 hrs7
            clear hg8
            have HQ : Hid _ := mulR_c w8 pq p1 p2 0 0 (q : Int) (ya : Int) 1 yb KB (by omega) HBD.out.1 HBD.out.2.1 HBD.out.2.2.1 HBD.out.2.2.2.1 (by omega) HBD.out.2.2.2.2 hzs8 hrs8 hks8 hZ8.rat hR8 hP8
            rw [← HND.out.1, ← HND.out.2] at HQ
            clear hR8 hP8 hZ8 hrs8 hks8
            try clear hR7
            try clear hR6
            try clear hR5
            try clear hP7
            try clear hZ7
            try clear hZ6
            try clear hrs7
            try clear hrs6
            try clear hks7
            try clear hzs7
            try clear hzs6
            try clear hS7
            try clear hS6
            clear hS5
            refine wpAnyJ_next (i := 9) (by kernel_rfl) rfl ?_
            intro K hK
            go_simp
            go_wp2_with (go_at_call 39; refine Calls.mono (P := Try.prog) HQ.out ?_; intro e w9 hx; obtain ⟨rfl, hg9, hR9⟩ := hx)
            have hS9 := GX.fresh hS8 hg9 hpq0
            have hqs9 := Nat.lt_of_lt_of_le hzs8 hg9.size
            refine hK.out _ _ (Or.inr hS9) ?_
            clear hK K hS8 hg9 hpq0 hzs8 HQ
            have HFQ : Hid _ := HFT.out w9 pq hqs9 hR9
            clear hR9 hqs9
            refine wpAnyJ_next (i := 10) (by kernel_rfl) rfl ?_
            intro K hK
            go_simp
            go_wp2_with (go_at_call 41; refine Calls.mono (P := Try.prog) HFQ.out ?_; intro e w10 hx; obtain ⟨x, rfl, hg10⟩ := hx)
            refine hK.out _ _ (Or.inl (by decide)) ?_
            have hG10 := G.trans (G.trans hG2 hS9) hg10
            clear hK K hg10 hS9 HFQ
            refine wpAnyJ_next (i := 11) (by kernel_rfl) rfl ?_
            intro K hK
            go_simp
            refine hK.out _ _ (Or.inl (by decide)) ?_
            clear hK K
            refine wpAnyJ_two (i := 12) (j := 13) (by kernel_rfl) rfl rfl ?_ ?_
            · intro K hK
              go_simp
              refine hK.out _ _ (Or.inl (by decide)) ?_
              clear hK K
              refine wpAnyJ_two (i := 13) (j := 14) (by kernel_rfl) rfl rfl ?_ ?_
              · intro K hK
                go_simp
                refine hK.out _ _ (Or.inl (by decide)) ?_
                clear hK K
                refine wpAnyJ_next (i := 14) (by kernel_rfl) rfl ?_
                intro K hK
                go_simp
                refine hK.out _ _ (Or.inl (by decide)) ?_
                clear hK K
                refine wpAnyJ_done (by kernel_rfl) ?_ _
                revert hG10
                revert x
                revert p2
                revert p1
                revert pq
                revert w10
                exact LX.out
              · intro K hK
                go_simp
                refine hK.out _ _ (Or.inl (by decide)) ?_
                clear hK K
                refine wpAnyJ_next (i := 13) (by kernel_rfl) rfl ?_
                intro K hK
                go_simp
                refine hK.out _ _ (Or.inl (by decide)) ?_
                clear hK K
                refine wpAnyJ_done (by kernel_rfl) ?_ _
                revert hG10
                revert x
                revert p2
                revert p1
                revert pq
                revert w10
                exact LX.out
            · intro K hK
              go_simp
              refine hK.out _ _ (Or.inl (by decide)) ?_
              clear hK K
              refine wpAnyJ_next (i := 12) (by kernel_rfl) rfl ?_
              intro K hK
              go_simp
              refine hK.out _ _ (Or.inl (by decide)) ?_
              clear hK K
              refine wpAnyJ_next (i := 14) (by kernel_rfl) rfl ?_
              intro K hK
              go_simp
              refine hK.out _ _ (Or.inl (by decide)) ?_
              clear hK K
              refine wpAnyJ_done (by kernel_rfl) ?_ _
              revert hG10
              revert x
              revert p2
              revert p1
              revert pq
              revert w10
              exact LX.out
        · as_aux_lemma =>
            intro K hK
            go_simp
            go_wp2_with (go_at_call 30; refine Calls.mono (P := Try.prog) (HPW.out w6) ?_; intro e w7 hx; obtain ⟨p2, rfl, hg7, -, hks7, hP7⟩ := hx)
            refine hK.out _ _ (Or.inr (G.trans hS6 hg7)) ?_
            clear hK K
            have hS7 := G.trans hS6 hg7
            have hR7 := hR6.G hrs6 hg7
            have hrs7 := G.lt hg7 hrs6
            clear hg7
            refine wpAnyJ_next (i := 0) (by kernel_rfl) rfl ?_
            intro K hK
            go_simp
            refine hK.out _ _ (Or.inr (hS7.alloc _)) ?_
            clear hK K
            have hZ8 := RatZ.new w7 64
            have hS8 := hS7.alloc (.cells #[.bool false, .slice none 0 0, .bool false, .slice none 0 0] 64)
            have hzs8 : w7.heap.size < (w7.alloc (.cells #[.bool false, .slice none 0 0, .bool false, .slice none 0 0] 64)).heap.size := by simp
            obtain ⟨pq, hpq⟩ : ∃ pq, pq = w7.heap.size := ⟨_, rfl⟩
            rw [← hpq] at hZ8 hzs8 ⊢
            have hpq0 : w2.heap.size ≤ pq := by have := hS7.size; omega
            have hR8 := hR7.G hrs7 ((G.refl w7).alloc (.cells #[.bool false, .slice none 0 0, .bool false, .slice none 0 0] 64))
            have hrs8 := G.lt ((G.refl w7).alloc (.cells #[.bool false, .slice none 0 0, .bool false, .slice none 0 0] 64)) hrs7
            have hP8 := hP7.G hks7 ((G.refl w7).alloc (.cells #[.bool false, .slice none 0 0, .bool false, .slice none 0 0] 64))
            have hks8 := G.lt ((G.refl w7).alloc (.cells #[.bool false, .slice none 0 0, .bool false, .slice none 0 0] 64)) hks7
            clear hpq
            generalize w7.alloc (.cells #[.bool false, .slice none 0 0, .bool false, .slice none 0 0] 64) = w8 at *
            have HQ : Hid _ := mulR_c w8 pq p1 p2 0 0 (q : Int) (ya : Int) 1 yb KB (by omega) HBD.out.1 HBD.out.2.1 HBD.out.2.2.1 HBD.out.2.2.2.1 (by omega) HBD.out.2.2.2.2 hzs8 hrs8 hks8 hZ8.rat hR8 hP8
            rw [← HND.out.1, ← HND.out.2] at HQ
            clear hR8 hP8 hZ8 hrs8 hks8
            try clear hR7
            try clear hR6
            try clear hR5
            try clear hP7
            try clear hZ7
            try clear hZ6
            try clear hrs7
            try clear hrs6
            try clear hks7
            try clear hzs7
            try clear hzs6
            try clear hS7
            try clear hS6
            clear hS5
            refine wpAnyJ_next (i := 9) (by kernel_rfl) rfl ?_
            intro K hK
            go_simp
            go_wp2_with (go_at_call 39; refine Calls.mono (P := Try.prog) HQ.out ?_; intro e w9 hx; obtain ⟨rfl, hg9, hR9⟩ := hx)
            have hS9 := GX.fresh hS8 hg9 hpq0
            have hqs9 := Nat.lt_of_lt_of_le hzs8 hg9.size
            refine hK.out _ _ (Or.inr hS9) ?_
            clear hK K hS8 hg9 hpq0 hzs8 HQ
            have HFQ : Hid _ := HFT.out w9 pq hqs9 hR9
            clear hR9 hqs9
            refine wpAnyJ_next (i := 10) (by kernel_rfl) rfl ?_
            intro K hK
            go_simp
            go_wp2_with (go_at_call 41; refine Calls.mono (P := Try.prog) HFQ.out ?_; intro e w10 hx; obtain ⟨x, rfl, hg10⟩ := hx)
            refine hK.out _ _ (Or.inl (by decide)) ?_
            have hG10 := G.trans (G.trans hG2 hS9) hg10
            clear hK K hg10 hS9 HFQ
            refine wpAnyJ_next (i := 11) (by kernel_rfl) rfl ?_
            intro K hK
            go_simp
            refine hK.out _ _ (Or.inl (by decide)) ?_
            clear hK K
            refine wpAnyJ_two (i := 12) (j := 13) (by kernel_rfl) rfl rfl ?_ ?_
            · intro K hK
              go_simp
              refine hK.out _ _ (Or.inl (by decide)) ?_
              clear hK K
              refine wpAnyJ_two (i := 13) (j := 14) (by kernel_rfl) rfl rfl ?_ ?_
              · intro K hK
                go_simp
                refine hK.out _ _ (Or.inl (by decide)) ?_
                clear hK K
                refine wpAnyJ_next (i := 14) (by kernel_rfl) rfl ?_
                intro K hK
                go_simp
                refine hK.out _ _ (Or.inl (by decide)) ?_
                clear hK K
                refine wpAnyJ_done (by kernel_rfl) ?_ _
                revert hG10
                revert x
                revert p2
                revert p1
                revert pq
                revert w10
                exact LX.out
              · intro K hK
                go_simp
                refine hK.out _ _ (Or.inl (by decide)) ?_
                clear hK K
                refine wpAnyJ_next (i := 13) (by kernel_rfl) rfl ?_
                intro K hK
                go_simp
                refine hK.out _ _ (Or.inl (by decide)) ?_
                clear hK K
                refine wpAnyJ_done (by kernel_rfl) ?_ _
                revert hG10
                revert x
                revert p2
                revert p1
                revert pq
                revert w10
                exact LX.out
            · intro K hK
              go_simp
              refine hK.out _ _ (Or.inl (by decide)) ?_
              clear hK K
              refine wpAnyJ_next (i := 12) (by kernel_rfl) rfl ?_
              intro K hK
              go_simp
              refine hK.out _ _ (Or.inl (by decide)) ?_
              clear hK K
              refine wpAnyJ_next (i := 14) (by kernel_rfl) rfl ?_
              intro K hK
              go_simp
              refine hK.out _ _ (Or.inl (by decide)) ?_
              clear hK K
              refine wpAnyJ_done (by kernel_rfl) ?_ _
              revert hG10
              revert x
              revert p2
              revert p1
              revert pq
              revert w10
              exact LX.out
  · skip
    refine Later.mk ?_
    intro w10 pq p1 p2 x hG10
    have hng := HNG.out
    clear HBD HND HRT HPW HFT HWB hps hc1 hc2 HNG
    cases s
    · go_wp2_with fail
      go_ret2
      exact ⟨rfl, hG10⟩
    · go_wp2_with fail
      go_ret2
      exact ⟨rfl, hG10⟩

set_option maxRecDepth 10000 in
set_option maxHeartbeats 4000000 in
theorem large_nor (b ex fr : Nat) (q : Nat) (P : Int) (E F : Nat) (w : World) (hE : 2 ≤ E) (hE2 : E ≤ 8) (hF : 1 ≤ F) (hF2 : F ≤ 23) (h0 : b < 2 ^ (E + F + 1)) (s : Bool) (hs : (b / 2 ^ (E + F) % 2 == 1) = s) (hex : b / 2 ^ F % 2 ^ E = ex) (hfr : b % 2 ^ F = fr)
    (hlt : ex < 2 ^ E - 1) (hz : ex ≠ 0) (hqe : q = 2 ^ F + fr) (hP : P = ex - (2 ^ (E - 1) - 1) - F) :
    Calls Try.prog 10 #[.int .u64 b, .agg #[.int .i64 E, .int .i64 F]] w fun e w' => e = .returned (.tuple #[.float .f64 (if s then nearV 11 52 q P + 2 ^ 63 else nearV 11 52 q P), .bool true]) ∧ G w w' := by
  have hb64 : b < 2 ^ 63 := Nat.lt_of_lt_of_le h0 (Nat.pow_le_pow_right (by omega) (by omega))
  have HF1 : Hid (wrap64 (bits BinOp.and IntKind.u64 (b : Int) (IntKind.u64.wrap (IntKind.u64.wrap (2 ^ F) - 1))) = (fr : Int)) := by
    show wrap64 (bits BinOp.and IntKind.u64 (b : Int) (IntKind.u64.wrap (IntKind.u64.wrap (2 ^ F) - 1))) = (fr : Int)
    rw [and_w b F hb64 hF2, hfr]
  have HX1 : Hid (wrap64 (bits BinOp.and IntKind.u64 ((b : Int) / 2 ^ F) (IntKind.u64.wrap (IntKind.u64.wrap (2 ^ E) - 1))) = (ex : Int)) := by
    show wrap64 (bits BinOp.and IntKind.u64 ((b : Int) / 2 ^ F) (IntKind.u64.wrap (IntKind.u64.wrap (2 ^ E) - 1))) = (ex : Int)
    have h1 : b / 2 ^ F ≤ b := Nat.div_le_self _ _
    rw [FT.ipow F, ← Int.natCast_ediv, and_w (b / 2 ^ F) E (by omega) (by omega), hex]
  have hT1 : ((b : Int) / 2 ^ (E + F) == 1) = s := by
    rw [FT.ipow, ← Int.natCast_ediv]
    have h1 : b / 2 ^ (E + F) < 2 := by rw [Nat.div_lt_iff_lt_mul (Nat.two_pow_pos _)]; rw [Nat.pow_succ] at h0; omega
    rw [Nat.mod_eq_of_lt h1] at hs
    rw [← hs]
    generalize b / 2 ^ (E + F) = z at *
    have : z = 0 ∨ z = 1 := by omega
    rcases this with h | h <;> subst h <;> rfl
  obtain ⟨bi, hbi⟩ : ∃ bi : Int, bi = 2 ^ (E - 1) - 1 := ⟨_, rfl⟩
  obtain ⟨gr, hgr⟩ : ∃ gr : Int, gr = 2 ^ E - 1 := ⟨_, rfl⟩
  have hMb : (1 : Int) ≤ 2 ^ (E - 1) ∧ (2 : Int) ^ (E - 1) ≤ 128 := pow_bd (show E - 1 ≤ 7 by omega)
  have hM2 : (2 : Int) ≤ 2 ^ (E - 1) := by
    have : 2 ^ 1 ≤ 2 ^ (E - 1) := pow_le (by omega)
    rw [FT.ipow]; omega
  have hEb : (1 : Int) ≤ 2 ^ E ∧ (2 : Int) ^ E ≤ 256 := pow_bd hE2
  have hBW : wrap64 (wrap64 (2 ^ (E - 1)) - 1) = bi := by
    generalize (2 : Int) ^ (E - 1) = M at *
    have e : wrap64 M = M := IntWalk.wrap64_in _ (by omega)
    rw [e, hbi]
    exact IntWalk.wrap64_in _ (by omega)
  have hGW : wrap64 (wrap64 (2 ^ E) - 1) = gr := by
    generalize (2 : Int) ^ E = M at *
    have e : wrap64 M = M := IntWalk.wrap64_in _ (by omega)
    rw [e, hgr]
    exact IntWalk.wrap64_in _ (by omega)
  have HT1 : Hid _ := hT1
  have HBW : Hid _ := hBW
  have HGW : Hid _ := hGW
  clear hT1 hBW hGW
  have hb1 : 1 ≤ bi := by omega
  have hb2 : bi ≤ 127 := by omega
  have hgn : gr = ((2 ^ E - 1 : Nat) : Int) := by
    have := Nat.two_pow_pos E
    rw [hgr, FT.ipow]; omega
  have HTA : Hid (((ex : Int) == gr) = false) := by show ((ex : Int) == gr) = false; rw [hgn]; simp; omega
  have HTC : Hid (((ex : Int) == 0) = false) := by show ((ex : Int) == 0) = false; simp; omega
  have hF23 : 2 ^ F ≤ 2 ^ 23 := pow_le hF2
  have hE8 : 2 ^ E ≤ 2 ^ 8 := pow_le hE2
  have hfl : fr < 2 ^ F := by rw [← hfr]; exact Nat.mod_lt _ (Nat.two_pow_pos _)
  have hq : q < 2 ^ 53 := by omega
  rw [← hbi] at hP
  have hP1 : -1000 ≤ P := by omega
  have hP2 : P ≤ 1000 := by omega
  have HWB : Hid (IntKind.i64.wrap (IntKind.i64.wrap (ex - bi) - F) = P) := by
    show IntKind.i64.wrap (IntKind.i64.wrap (ex - bi) - F) = P
    rw [IntWalk.i64_in (ex - bi) (by omega), IntWalk.i64_in _ (by omega), hP]
  have HWA : Hid (IntKind.i64.wrap (fr + IntKind.i64.wrap (2 ^ F)) = (q : Int)) := by
    show IntKind.i64.wrap (fr + IntKind.i64.wrap (2 ^ F)) = (q : Int)
    have hp2 : (2 : Int) ^ F = ((2 ^ F : Nat) : Int) := FT.ipow _
    rw [hp2, IntWalk.i64_in ((2 ^ F : Nat) : Int) (by omega), IntWalk.i64_in _ (by omega), hqe]
    push_cast; omega
  obtain ⟨KB, hKB⟩ : ∃ KB : Nat, KB = 110 := ⟨_, rfl⟩
  obtain ⟨ya, yb, N, D, hya, hyb, hbd, hnd, hft⟩ := mul_facts (q := q) (P := P) hq hP1 hP2 KB hKB
  have HBD : Hid _ := hbd
  have HND : Hid _ := hnd
  have HRT : Hid _ := fun w => newRat_c w (q : Int) (by omega)
  have HPW : Hid _ := pow2_c P (by omega) (by omega)
  rw [← hya, ← hyb] at HPW
  have hrl := nearV_le q P
  obtain ⟨r, hr⟩ : ∃ r, r = nearV 11 52 q P := ⟨_, rfl⟩
  have HFT : Hid (∀ w1 p, p < w1.heap.size → RatIs w1 p (N : Int) (D : Int) → Calls Try.prog 41 #[.pointer (some ⟨p, 0, none⟩)] w1 (RetFl w1 r)) := by
    show ∀ w1 p, p < w1.heap.size → RatIs w1 p (N : Int) (D : Int) → Calls Try.prog 41 #[.pointer (some ⟨p, 0, none⟩)] w1 (RetFl w1 r)
    intro w1 p hp hrt
    rcases hft with ⟨h1, h2⟩ | ⟨h1, h2, h3, h4, h5, h6, h7⟩
    · rw [h2] at hrt
      have e : r = 0 := by rw [hr, h1]; unfold nearV; rw [if_pos rfl]
      rw [e]
      exact float64_zero w1 p D hrt
    · have := float64_c w1 p KB (N : Int) D (by omega) (by omega) h2 h3 h4 h5 h6 hp hrt
      rw [h7, ← hr, decide_eq_false (by omega)] at this
      exact this
  rw [← hr]
  rw [← hr] at hrl
  have hng := negFloat_wrd r (by omega)
  obtain ⟨rn, hrn⟩ : ∃ rn, rn = r + 2 ^ 63 := ⟨_, rfl⟩
  rw [← hrn]
  have HNG : Hid (Op.negFloat .f64 r = rn) := by show Op.negFloat .f64 r = rn; rw [hng, hrn]; rfl
  clear hng hrn
  clear hya hyb hbd hnd hft hr hrl hq hP1 hP2
  clear hs hex hfr hlt hbi hgr hgn hMb hM2 hEb h0 hb64 hF23 hE8 hfl hP hqe hz
  go_enter Try.func10, Try.ntmps10
  go_wp2_with fail
  refine region_gw (by kernel_rfl) (by kernel_rfl) ?_
  intro W hW
  have hq37 := gw_cell (w := W) (a := ⟨w.heap.size, 0, none⟩) (x := .int .i64 E) (by rw [hW]; first | (simp; done) | (simp; omega) | omega) (by rw [hW]; first | assumption | (simp [go_sem]; done) | (simp [*, go_sem]; done))
  have hq38 := gw_cell (w := W) (a := ⟨w.heap.size, 1, none⟩) (x := .int .i64 F) (by rw [hW]; first | (simp; done) | (simp; omega) | omega) (by rw [hW]; first | assumption | (simp [go_sem]; done) | (simp [*, go_sem]; done))
  clear hW
  repeat (go_big_quiet_step (fail))
  refine wpQuiet_nil ?_
  clear hq37 hq38
  intro w2 hw2
  have hc1 := hw2.cell (p := ⟨w.heap.size, 0, none⟩) (v := .int .i64 E) (by simp) (by simp [go_sem])
  have hc2 := hw2.cell (p := ⟨w.heap.size, 1, none⟩) (v := .int .i64 F) (by simp) (by simp [go_sem])
  have hG2 : G w w2 := (by repeat' (first | exact G.refl _ | assumption | refine G.alloc ?_ _ | refine G.drew ?_ | refine G.drewN ?_ _ | (refine G.trans ?_ (by assumption))))
  have hps : w.heap.size < w2.heap.size := by have := hw2.size; simp at this; omega
  obtain ⟨pf, hpf⟩ : ∃ pf, pf = w.heap.size := ⟨_, rfl⟩
  rw [← hpf] at hc1 hc2 hps ⊢
  clear hw2 hpf
  rw [HF1.out, HX1.out]
  clear HF1 HX1
  have hT1 := HT1.out
  have hBW := HBW.out
  have hGW := HGW.out
  clear HT1 HBW HGW
  have t1 := HTA.out
  have t3 := HTC.out
  go_wp2_with fail
  apply share
  · intro LX
    refine region_J 15 (G w2) (by kernel_rfl) (by first | exact (G.refl _).drew | exact G.drew (by assumption)) ?_
    intro hSh
    refine wpAnyJ_take (i := 1) (v := ?_) rfl (by kernel_rfl) (by kernel_rfl) (by kernel_rfl) (by kernel_rfl) (by kernel_rfl) (by kernel_rfl) (by kernel_rfl) (fun _ _ _ h => h) (Or.inl ⟨by rfl, ?_⟩) (by assumption) ?_
    rotate_left
    · intro wq hwq
      have hq13 := G.cell (p := ⟨pf, 0, none⟩) (v := .int .i64 E) hwq (by first | assumption | (simp; done) | (simp; omega) | omega) (by assumption)
      have hq14 := G.cell (p := ⟨pf, 1, none⟩) (v := .int .i64 F) hwq (by first | assumption | (simp; done) | (simp; omega) | omega) (by assumption)
      first | (go_simp; done) | (go_simp; with_reducible rfl)
    try simp only [Act.put, List.setIfInBounds_toArray, List.set_cons_zero, List.set_cons_succ]
    refine wpAnyJ_take (i := 2) (v := ?_) rfl (by kernel_rfl) (by kernel_rfl) (by kernel_rfl) (by kernel_rfl) (by kernel_rfl) (by kernel_rfl) (by kernel_rfl) (fun _ _ _ h => h) (Or.inl ⟨by rfl, ?_⟩) (by assumption) ?_
    rotate_left
    · intro wq hwq
      have hq15 := G.cell (p := ⟨pf, 0, none⟩) (v := .int .i64 E) hwq (by first | assumption | (simp; done) | (simp; omega) | omega) (by assumption)
      have hq16 := G.cell (p := ⟨pf, 1, none⟩) (v := .int .i64 F) hwq (by first | assumption | (simp; done) | (simp; omega) | omega) (by assumption)
      first | (go_simp; done) | (go_simp; with_reducible rfl)
    try simp only [Act.put, List.setIfInBounds_toArray, List.set_cons_zero, List.set_cons_succ]
    refine wpAnyJ_take (i := 3) (v := ?_) rfl (by kernel_rfl) (by kernel_rfl) (by kernel_rfl) (by kernel_rfl) (by kernel_rfl) (by kernel_rfl) (by kernel_rfl) (fun _ _ _ h => h) (Or.inl ⟨by rfl, ?_⟩) (by assumption) ?_
    rotate_left
    · intro wq hwq
      have hq17 := G.cell (p := ⟨pf, 0, none⟩) (v := .int .i64 E) hwq (by first | assumption | (simp; done) | (simp; omega) | omega) (by assumption)
      have hq18 := G.cell (p := ⟨pf, 1, none⟩) (v := .int .i64 F) hwq (by first | assumption | (simp; done) | (simp; omega) | omega) (by assumption)
      first | (go_simp; done) | (go_simp; with_reducible rfl)
    try simp only [Act.put, List.setIfInBounds_toArray, List.set_cons_zero, List.set_cons_succ]
    refine wpAnyJ_take (i := 4) (v := ?_) rfl (by kernel_rfl) (by kernel_rfl) (by kernel_rfl) (by kernel_rfl) (by kernel_rfl) (by kernel_rfl) (by kernel_rfl) (fun _ _ _ h => h) (Or.inl ⟨by rfl, ?_⟩) (by assumption) ?_
    rotate_left
    · intro wq hwq
      have hq19 := G.cell (p := ⟨pf, 0, none⟩) (v := .int .i64 E) hwq (by first | assumption | (simp; done) | (simp; omega) | omega) (by assumption)
      have hq20 := G.cell (p := ⟨pf, 1, none⟩) (v := .int .i64 F) hwq (by first | assumption | (simp; done) | (simp; omega) | omega) (by assumption)
      first | (go_simp; done) | (go_simp; with_reducible rfl)
    try simp only [Act.put, List.setIfInBounds_toArray, List.set_cons_zero, List.set_cons_succ]
    refine wpAnyJ_take (i := 5) (v := ?_) rfl (by kernel_rfl) (by kernel_rfl) (by kernel_rfl) (by kernel_rfl) (by kernel_rfl) (by kernel_rfl) (by kernel_rfl) (fun _ _ _ h => h) (Or.inl ⟨by rfl, ?_⟩) (by assumption) ?_
    rotate_left
    · intro wq hwq
      have hq21 := G.cell (p := ⟨pf, 0, none⟩) (v := .int .i64 E) hwq (by first | assumption | (simp; done) | (simp; omega) | omega) (by assumption)
      have hq22 := G.cell (p := ⟨pf, 1, none⟩) (v := .int .i64 F) hwq (by first | assumption | (simp; done) | (simp; omega) | omega) (by assumption)
      first | (go_simp; done) | (go_simp; with_reducible rfl)
    try simp only [Act.put, List.setIfInBounds_toArray, List.set_cons_zero, List.set_cons_succ]
    refine wpAnyJ_take (i := 7) (v := ?_) rfl (by kernel_rfl) (by kernel_rfl) (by kernel_rfl) (by kernel_rfl) (by kernel_rfl) (by kernel_rfl) (by kernel_rfl) (fun _ _ _ h => h) (Or.inl ⟨by rfl, ?_⟩) (by assumption) ?_
    rotate_left
    · intro wq hwq
      have hq23 := G.cell (p := ⟨pf, 0, none⟩) (v := .int .i64 E) hwq (by first | assumption | (simp; done) | (simp; omega) | omega) (by assumption)
      have hq24 := G.cell (p := ⟨pf, 1, none⟩) (v := .int .i64 F) hwq (by first | assumption | (simp; done) | (simp; omega) | omega) (by assumption)
      first | (go_simp; done) | (go_simp; with_reducible rfl)
    try simp only [Act.put, List.setIfInBounds_toArray, List.set_cons_zero, List.set_cons_succ]
    refine wpAnyJ_take (i := 8) (v := ?_) rfl (by kernel_rfl) (by kernel_rfl) (by kernel_rfl) (by kernel_rfl) (by kernel_rfl) (by kernel_rfl) (by kernel_rfl) (fun _ _ _ h => h) (Or.inl ⟨by rfl, ?_⟩) (by assumption) ?_
    rotate_left
    · intro wq hwq
      have hq25 := G.cell (p := ⟨pf, 0, none⟩) (v := .int .i64 E) hwq (by first | assumption | (simp; done) | (simp; omega) | omega) (by assumption)
      have hq26 := G.cell (p := ⟨pf, 1, none⟩) (v := .int .i64 F) hwq (by first | assumption | (simp; done) | (simp; omega) | omega) (by assumption)
      first | (go_simp; done) | (go_simp; with_reducible rfl)
    try simp only [Act.put, List.setIfInBounds_toArray, List.set_cons_zero, List.set_cons_succ]
    refine wpAnyJ_take (i := 9) (v := ?_) rfl (by kernel_rfl) (by kernel_rfl) (by kernel_rfl) (by kernel_rfl) (by kernel_rfl) (by kernel_rfl) (by kernel_rfl) (fun _ _ _ h => h) (Or.inl ⟨by rfl, ?_⟩) (by assumption) ?_
    rotate_left
    · intro wq hwq
      have hq27 := G.cell (p := ⟨pf, 0, none⟩) (v := .int .i64 E) hwq (by first | assumption | (simp; done) | (simp; omega) | omega) (by assumption)
      have hq28 := G.cell (p := ⟨pf, 1, none⟩) (v := .int .i64 F) hwq (by first | assumption | (simp; done) | (simp; omega) | omega) (by assumption)
      first | (go_simp; done) | (go_simp; with_reducible rfl)
    try simp only [Act.put, List.setIfInBounds_toArray, List.set_cons_zero, List.set_cons_succ]
    refine wpAnyJ_take (i := 10) (v := ?_) rfl (by kernel_rfl) (by kernel_rfl) (by kernel_rfl) (by kernel_rfl) (by kernel_rfl) (by kernel_rfl) (by kernel_rfl) (fun _ _ _ h => h) (Or.inl ⟨by rfl, ?_⟩) (by assumption) ?_
    rotate_left
    · intro wq hwq
      have hq29 := G.cell (p := ⟨pf, 0, none⟩) (v := .int .i64 E) hwq (by first | assumption | (simp; done) | (simp; omega) | omega) (by assumption)
      have hq30 := G.cell (p := ⟨pf, 1, none⟩) (v := .int .i64 F) hwq (by first | assumption | (simp; done) | (simp; omega) | omega) (by assumption)
      first | (go_simp; done) | (go_simp; with_reducible rfl)
    try simp only [Act.put, List.setIfInBounds_toArray, List.set_cons_zero, List.set_cons_succ]
    refine wpAnyJ_take (i := 11) (v := ?_) rfl (by kernel_rfl) (by kernel_rfl) (by kernel_rfl) (by kernel_rfl) (by kernel_rfl) (by kernel_rfl) (by kernel_rfl) (fun _ _ _ h => h) (Or.inl ⟨by rfl, ?_⟩) (by assumption) ?_
    rotate_left
    · intro wq hwq
      have hq31 := G.cell (p := ⟨pf, 0, none⟩) (v := .int .i64 E) hwq (by first | assumption | (simp; done) | (simp; omega) | omega) (by assumption)
      have hq32 := G.cell (p := ⟨pf, 1, none⟩) (v := .int .i64 F) hwq (by first | assumption | (simp; done) | (simp; omega) | omega) (by assumption)
      first | (go_simp; done) | (go_simp; with_reducible rfl)
    try simp only [Act.put, List.setIfInBounds_toArray, List.set_cons_zero, List.set_cons_succ]
    refine wpAnyJ_take (i := 12) (v := ?_) rfl (by kernel_rfl) (by kernel_rfl) (by kernel_rfl) (by kernel_rfl) (by kernel_rfl) (by kernel_rfl) (by kernel_rfl) (fun _ _ _ h => h) (Or.inl ⟨by rfl, ?_⟩) (by assumption) ?_
    rotate_left
    · intro wq hwq
      have hq33 := G.cell (p := ⟨pf, 0, none⟩) (v := .int .i64 E) hwq (by first | assumption | (simp; done) | (simp; omega) | omega) (by assumption)
      have hq34 := G.cell (p := ⟨pf, 1, none⟩) (v := .int .i64 F) hwq (by first | assumption | (simp; done) | (simp; omega) | omega) (by assumption)
      first | (go_simp; done) | (go_simp; with_reducible rfl)
    try simp only [Act.put, List.setIfInBounds_toArray, List.set_cons_zero, List.set_cons_succ]
    show wpAnyJ _ _ _ _ _ _ _ _ _ w2.drew
    try rw [hBW]
    try rw [HWA.out]
    rw [HWB.out]
    have hS5 := hSh
    generalize w2.drew = w5 at *
    clear hSh
    refine wpAnyJ_two (i := 0) (j := 6) (by kernel_rfl) rfl rfl ?_ ?_
    · skip
      intro K hK
      go_simp
      refine hK.out _ _ (Or.inr (hS5.alloc _)) ?_
      clear hK K
      have hZ6 := RatZ.new w5 64
      have hS6 := hS5.alloc (.cells #[.bool false, .slice none 0 0, .bool false, .slice none 0 0] 64)
      have hzs6 : w5.heap.size < (w5.alloc (.cells #[.bool false, .slice none 0 0, .bool false, .slice none 0 0] 64)).heap.size := by simp
      obtain ⟨pq, hpq⟩ : ∃ pq, pq = w5.heap.size := ⟨_, rfl⟩
      rw [← hpq] at hZ6 hzs6 ⊢
      have hpq0 : w2.heap.size ≤ pq := by have := hS5.size; omega
      clear hpq
      generalize w5.alloc (.cells #[.bool false, .slice none 0 0, .bool false, .slice none 0 0] 64) = w6 at *
      refine wpAnyJ_next (i := 6) (by kernel_rfl) rfl ?_
      intro K hK
      go_simp
      go_wp2_with (go_at_call 40; refine Calls.mono (P := Try.prog) (HRT.out w6) ?_; intro e w7 hx; obtain ⟨p1, rfl, hg7, -, hrs7, hR7⟩ := hx)
      refine hK.out _ _ (Or.inr (G.trans hS6 hg7)) ?_
      clear hK K
      have hS7 := G.trans hS6 hg7
      have hZ7 := hZ6.G hzs6 hg7
      have hzs7 := G.lt hg7 hzs6
      clear hg7
      refine wpAnyJ_next (i := 13) (by kernel_rfl) rfl ?_
      intro K hK
      go_simp
      go_wp2_with (go_at_call 30; refine Calls.mono (P := Try.prog) (HPW.out w7) ?_; intro e w8 hx; obtain ⟨p2, rfl, hg8, -, hks8, hP8⟩ := hx)
      refine hK.out _ _ (Or.inr (G.trans hS7 hg8)) ?_
      clear hK K
      have hS8 := G.trans hS7 hg8
      have hZ8 := hZ7.G hzs7 hg8
      have hzs8 := G.lt hg8 hzs7
      have hR8 := hR7.G hrs7 hg8
      have hrs8 := G.lt hg8 hrs7
      clear hg8
      have HQ : Hid _ := mulR_c w8 pq p1 p2 0 0 (q : Int) (ya : Int) 1 yb KB (by omega) HBD.out.1 HBD.out.2.1 HBD.out.2.2.1 HBD.out.2.2.2.1 (by omega) HBD.out.2.2.2.2 hzs8 hrs8 hks8 hZ8.rat hR8 hP8
      rw [← HND.out.1, ← HND.out.2] at HQ
      clear hR8 hP8 hZ8 hrs8 hks8
      try clear hR7
      try clear hR6
      try clear hR5
      try clear hP7
      try clear hZ7
      try clear hZ6
      try clear hrs7
      try clear hrs6
      try clear hks7
      try clear hzs7
      try clear hzs6
      try clear hS7
      try clear hS6
      clear hS5
      refine wpAnyJ_next (i := 14) (by kernel_rfl) rfl ?_
      intro K hK
      go_simp
      go_wp2_with (go_at_call 39; refine Calls.mono (P := Try.prog) HQ.out ?_; intro e w9 hx; obtain ⟨rfl, hg9, hR9⟩ := hx)
      have hS9 := GX.fresh hS8 hg9 hpq0
      have hqs9 := Nat.lt_of_lt_of_le hzs8 hg9.size
      refine hK.out _ _ (Or.inr hS9) ?_
      clear hK K hS8 hg9 hpq0 hzs8 HQ
      have HFQ : Hid _ := HFT.out w9 pq hqs9 hR9
      clear hR9 hqs9
      refine wpAnyJ_next (i := 15) (by kernel_rfl) rfl ?_
      intro K hK
      go_simp
      go_wp2_with (go_at_call 41; refine Calls.mono (P := Try.prog) HFQ.out ?_; intro e w10 hx; obtain ⟨x, rfl, hg10⟩ := hx)
      refine hK.out _ _ (Or.inl (by decide)) ?_
      have hG10 := G.trans (G.trans hG2 hS9) hg10
      clear hK K hg10 hS9 HFQ
      refine wpAnyJ_next (i := 16) (by kernel_rfl) rfl ?_
      intro K hK
      go_simp
      refine hK.out _ _ (Or.inl (by decide)) ?_
      clear hK K
      refine wpAnyJ_two (i := 17) (j := 18) (by kernel_rfl) rfl rfl ?_ ?_
      · intro K hK
        go_simp
        refine hK.out _ _ (Or.inl (by decide)) ?_
        clear hK K
        refine wpAnyJ_two (i := 18) (j := 19) (by kernel_rfl) rfl rfl ?_ ?_
        · intro K hK
          go_simp
          refine hK.out _ _ (Or.inl (by decide)) ?_
          clear hK K
          refine wpAnyJ_next (i := 19) (by kernel_rfl) rfl ?_
          intro K hK
          go_simp
          refine hK.out _ _ (Or.inl (by decide)) ?_
          clear hK K
          refine wpAnyJ_done (by kernel_rfl) ?_ _
          revert hG10
          revert x
          revert p2
          revert p1
          revert pq
          revert w10
          exact LX.out
        · intro K hK
          go_simp
          refine hK.out _ _ (Or.inl (by decide)) ?_
          clear hK K
          refine wpAnyJ_next (i := 18) (by kernel_rfl) rfl ?_
          intro K hK
          go_simp
          refine hK.out _ _ (Or.inl (by decide)) ?_
          clear hK K
          refine wpAnyJ_done (by kernel_rfl) ?_ _
          revert hG10
          revert x
          revert p2
          revert p1
          revert pq
          revert w10
          exact LX.out
      · intro K hK
        go_simp
        refine hK.out _ _ (Or.inl (by decide)) ?_
        clear hK K
        refine wpAnyJ_next (i := 17) (by kernel_rfl) rfl ?_
        intro K hK
        go_simp
        refine hK.out _ _ (Or.inl (by decide)) ?_
        clear hK K
        refine wpAnyJ_next (i := 19) (by kernel_rfl) rfl ?_
        intro K hK
        go_simp
        refine hK.out _ _ (Or.inl (by decide)) ?_
        clear hK K
        refine wpAnyJ_done (by kernel_rfl) ?_ _
        revert hG10
        revert x
        revert p2
        revert p1
        revert pq
        revert w10
        exact LX.out
    · as_aux_lemma =>
        intro K hK
        go_simp
        go_wp2_with (go_at_call 40; refine Calls.mono (P := Try.prog) (HRT.out w5) ?_; intro e w6 hx; obtain ⟨p1, rfl, hg6, -, hrs6, hR6⟩ := hx)
        refine hK.out _ _ (Or.inr (G.trans hS5 hg6)) ?_
        clear hK K
        have hS6 := G.trans hS5 hg6
        clear hg6
        refine wpAnyJ_two (i := 0) (j := 13) (by kernel_rfl) rfl rfl ?_ ?_
        · as_aux_lemma =>
            intro K hK
            go_simp
            refine hK.out _ _ (Or.inr (hS6.alloc _)) ?_
            clear hK K
            have hZ7 := RatZ.new w6 64
            have hS7 := hS6.alloc (.cells #[.bool false, .slice none 0 0, .bool false, .slice none 0 0] 64)
            have hzs7 : w6.heap.size < (w6.alloc (.cells #[.bool false, .slice none 0 0, .bool false, .slice none 0 0] 64)).heap.size := by simp
            obtain ⟨pq, hpq⟩ : ∃ pq, pq = w6.heap.size := ⟨_, rfl⟩
            rw [← hpq] at hZ7 hzs7 ⊢
            have hpq0 : w2.heap.size ≤ pq := by have := hS6.size; omega
            have hR7 := hR6.G hrs6 ((G.refl w6).alloc (.cells #[.bool false, .slice none 0 0, .bool false, .slice none 0 0] 64))
            have hrs7 := G.lt ((G.refl w6).alloc (.cells #[.bool false, .slice none 0 0, .bool false, .slice none 0 0] 64)) hrs6
            clear hpq
            generalize w6.alloc (.cells #[.bool false, .slice none 0 0, .bool false, .slice none 0 0] 64) = w7 at *
            refine wpAnyJ_next (i := 13) (by kernel_rfl) rfl ?_
            intro K hK
            go_simp
            go_wp2_with (go_at_call 30; refine Calls.mono (P := Try.prog) (HPW.out w7) ?_; intro e w8 hx; obtain ⟨p2, rfl, hg8, -, hks8, hP8⟩ := hx)
            refine hK.out _ _ (Or.inr (G.trans hS7 hg8)) ?_
            clear hK K
            have hS8 := G.trans hS7 hg8
            have hZ8 := hZ7.G hzs7 hg8
            have hzs8 := G.lt hg8 hzs7
            have hR8 := hR7.G hrs7 hg8
            have hrs8 := G.lt hg8 hrs7
            clear hg8
            have HQ : Hid _ := mulR_c w8 pq p1 p2 0 0 (q : Int) (ya : Int) 1 yb KB (by omega) HBD.out.1 HBD.out.2.1 HBD.out.2.2.1 HBD.out.2.2.2.1 (by omega) HBD.out.2.2.2.2 hzs8 hrs8 hks8 hZ8.rat hR8 hP8
            rw [← HND.out.1, ← HND.out.2] at HQ
            clear hR8 hP8 hZ8 hrs8 hks8
            try clear hR7
            try clear hR6
            try clear hR5
            try clear hP7
            try clear hZ7
            try clear hZ6
            try clear hrs7
            try clear hrs6
            try clear hks7
            try clear hzs7
            try clear hzs6
            try clear hS7
            try clear hS6
            clear hS5
            refine wpAnyJ_next (i := 14) (by kernel_rfl) rfl ?_
            intro K hK
            go_simp
            go_wp2_with (go_at_call 39; refine Calls.mono (P := Try.prog) HQ.out ?_; intro e w9 hx; obtain ⟨rfl, hg9, hR9⟩ := hx)
            have hS9 := GX.fresh hS8 hg9 hpq0
            have hqs9 := Nat.lt_of_lt_of_le hzs8 hg9.size
            refine hK.out _ _ (Or.inr hS9) ?_
            clear hK K hS8 hg9 hpq0 hzs8 HQ
            have HFQ : Hid _ := HFT.out w9 pq hqs9 hR9
            clear hR9 hqs9
            refine wpAnyJ_next (i := 15) (by kernel_rfl) rfl ?_
            intro K hK
            go_simp
            go_wp2_with (go_at_call 41; refine Calls.mono (P := Try.prog) HFQ.out ?_; intro e w10 hx; obtain ⟨x, rfl, hg10⟩ := hx)
            refine hK.out _ _ (Or.inl (by decide)) ?_
            have hG10 := G.trans (G.trans hG2 hS9) hg10
            clear hK K hg10 hS9 HFQ
            refine wpAnyJ_next (i := 16) (by kernel_rfl) rfl ?_
            intro K hK
            go_simp
            refine hK.out _ _ (Or.inl (by decide)) ?_
            clear hK K
            refine wpAnyJ_two (i := 17) (j := 18) (by kernel_rfl) rfl rfl ?_ ?_
            · intro K hK
              go_simp
              refine hK.out _ _ (Or.inl (by decide)) ?_
              clear hK K
              refine wpAnyJ_two (i := 18) (j := 19) (by kernel_rfl) rfl rfl ?_ ?_
              · intro K hK
                go_simp
                refine hK.out _ _ (Or.inl (by decide)) ?_
                clear hK K
                refine wpAnyJ_next (i := 19) (by kernel_rfl) rfl ?_
                intro K hK
                go_simp
                refine hK.out _ _ (Or.inl (by decide)) ?_
                clear hK K
                refine wpAnyJ_done (by kernel_rfl) ?_ _
                revert hG10
                revert x
                revert p2
                revert p1
                revert pq
                revert w10
                exact LX.out
              · intro K hK
                go_simp
                refine hK.out _ _ (Or.inl (by decide)) ?_
                clear hK K
                refine wpAnyJ_next (i := 18) (by kernel_rfl) rfl ?_
                intro K hK
                go_simp
                refine hK.out _ _ (Or.inl (by decide)) ?_
                clear hK K
                refine wpAnyJ_done (by kernel_rfl) ?_ _
                revert hG10
                revert x
                revert p2
                revert p1
                revert pq
                revert w10
                exact LX.out
            · intro K hK
              go_simp
              refine hK.out _ _ (Or.inl (by decide)) ?_
              clear hK K
              refine wpAnyJ_next (i := 17) (by kernel_rfl) rfl ?_
              intro K hK
              go_simp
              refine hK.out _ _ (Or.inl (by decide)) ?_
              clear hK K
              refine wpAnyJ_next (i := 19) (by kernel_rfl) rfl ?_
              intro K hK
              go_simp
              refine hK.out _ _ (Or.inl (by decide)) ?_
              clear hK K
              refine wpAnyJ_done (by kernel_rfl) ?_ _
              revert hG10
              revert x
              revert p2
              revert p1
              revert pq
              revert w10
              exact LX.out
        · as_aux_lemma =>
            intro K hK
            go_simp
            go_wp2_with (go_at_call 30; refine Calls.mono (P := Try.prog) (HPW.out w6) ?_; intro e w7 hx; obtain ⟨p2, rfl, hg7, -, hks7, hP7⟩ := hx)
            refine hK.out _ _ (Or.inr (G.trans hS6 hg7)) ?_
            clear hK K
            have hS7 := G.trans hS6 hg7
            have hR7 := hR6.G hrs6 hg7
            have hrs7 := G.lt hg7 hrs6
            clear hg7
            refine wpAnyJ_next (i := 0) (by kernel_rfl) rfl ?_
            intro K hK
            go_simp
            refine hK.out _ _ (Or.inr (hS7.alloc _)) ?_
            clear hK K
            have hZ8 := RatZ.new w7 64
            have hS8 := hS7.alloc (.cells #[.bool false, .slice none 0 0, .bool false, .slice none 0 0] 64)
            have hzs8 : w7.heap.size < (w7.alloc (.cells #[.bool false, .slice none 0 0, .bool false, .slice none 0 0] 64)).heap.size := by simp
            obtain ⟨pq, hpq⟩ : ∃ pq, pq = w7.heap.size := ⟨_, rfl⟩
            rw [← hpq] at hZ8 hzs8 ⊢
            have hpq0 : w2.heap.size ≤ pq := by have := hS7.size; omega
            have hR8 := hR7.G hrs7 ((G.refl w7).alloc (.cells #[.bool false, .slice none 0 0, .bool false, .slice none 0 0] 64))
            have hrs8 := G.lt ((G.refl w7).alloc (.cells #[.bool false, .slice none 0 0, .bool false, .slice none 0 0] 64)) hrs7
            have hP8 := hP7.G hks7 ((G.refl w7).alloc (.cells #[.bool false, .slice none 0 0, .bool false, .slice none 0 0] 64))
            have hks8 := G.lt ((G.refl w7).alloc (.cells #[.bool false, .slice none 0 0, .bool false, .slice none 0 0] 64)) hks7
            clear hpq
            generalize w7.alloc (.cells #[.bool false, .slice none 0 0, .bool false, .slice none 0 0] 64) = w8 at *
            have HQ : Hid _ := mulR_c w8 pq p1 p2 0 0 (q : Int) (ya : Int) 1 yb KB (by omega) HBD.out.1 HBD.out.2.1 HBD.out.2.2.1 HBD.out.2.2.2.1 (by omega) HBD.out.2.2.2.2 hzs8 hrs8 hks8 hZ8.rat hR8 hP8
            rw [← HND.out.1, ← HND.out.2] at HQ
            clear hR8 hP8 hZ8 hrs8 hks8
            try clear hR7
            try clear hR6
            try clear hR5
            try clear hP7
            try clear hZ7
            try clear hZ6
            try clear hrs7
            try clear hrs6
            try clear hks7
            try clear hzs7
            try clear hzs6
            try clear hS7
            try clear hS6
            clear hS5
            refine wpAnyJ_next (i := 14) (by kernel_rfl) rfl ?_
            intro K hK
            go_simp
            go_wp2_with (go_at_call 39; refine Calls.mono (P := Try.prog) HQ.out ?_; intro e w9 hx; obtain ⟨rfl, hg9, hR9⟩ := hx)
            have hS9 := GX.fresh hS8 hg9 hpq0
            have hqs9 := Nat.lt_of_lt_of_le hzs8 hg9.size
            refine hK.out _ _ (Or.inr hS9) ?_
            clear hK K hS8 hg9 hpq0 hzs8 HQ
            have HFQ : Hid _ := HFT.out w9 pq hqs9 hR9
            clear hR9 hqs9
            refine wpAnyJ_next (i := 15) (by kernel_rfl) rfl ?_
            intro K hK
            go_simp
            go_wp2_with (go_at_call 41; refine Calls.mono (P := Try.prog) HFQ.out ?_; intro e w10 hx; obtain ⟨x, rfl, hg10⟩ := hx)
            refine hK.out _ _ (Or.inl (by decide)) ?_
            have hG10 := G.trans (G.trans hG2 hS9) hg10
            clear hK K hg10 hS9 HFQ
            refine wpAnyJ_next (i := 16) (by kernel_rfl) rfl ?_
            intro K hK
            go_simp
            refine hK.out _ _ (Or.inl (by decide)) ?_
            clear hK K
            refine wpAnyJ_two (i := 17) (j := 18) (by kernel_rfl) rfl rfl ?_ ?_
            · intro K hK
              go_simp
              refine hK.out _ _ (Or.inl (by decide)) ?_
              clear hK K
              refine wpAnyJ_two (i := 18) (j := 19) (by kernel_rfl) rfl rfl ?_ ?_
              · intro K hK
                go_simp
                refine hK.out _ _ (Or.inl (by decide)) ?_
                clear hK K
                refine wpAnyJ_next (i := 19) (by kernel_rfl) rfl ?_
                intro K hK
                go_simp
                refine hK.out _ _ (Or.inl (by decide)) ?_
                clear hK K
                refine wpAnyJ_done (by kernel_rfl) ?_ _
                revert hG10
                revert x
                revert p2
                revert p1
                revert pq
                revert w10
                exact LX.out
              · intro K hK
                go_simp
                refine hK.out _ _ (Or.inl (by decide)) ?_
                clear hK K
                refine wpAnyJ_next (i := 18) (by kernel_rfl) rfl ?_
                intro K hK
                go_simp
                refine hK.out _ _ (Or.inl (by decide)) ?_
                clear hK K
                refine wpAnyJ_done (by kernel_rfl) ?_ _
                revert hG10
                revert x
                revert p2
                revert p1
                revert pq
                revert w10
                exact LX.out
            · intro K hK
              go_simp
              refine hK.out _ _ (Or.inl (by decide)) ?_
              clear hK K
              refine wpAnyJ_next (i := 17) (by kernel_rfl) rfl ?_
              intro K hK
              go_simp
              refine hK.out _ _ (Or.inl (by decide)) ?_
              clear hK K
              refine wpAnyJ_next (i := 19) (by kernel_rfl) rfl ?_
              intro K hK
              go_simp
              refine hK.out _ _ (Or.inl (by decide)) ?_
              clear hK K
              refine wpAnyJ_done (by kernel_rfl) ?_ _
              revert hG10
              revert x
              revert p2
              revert p1
              revert pq
              revert w10
              exact LX.out
  · skip
    refine Later.mk ?_
    intro w10 pq p1 p2 x hG10
    have hng := HNG.out
    clear HBD HND HRT HPW HFT HWB hps hc1 hc2 HNG
    cases s
    · go_wp2_with fail
      go_ret2
      exact ⟨rfl, hG10⟩
    · go_wp2_with fail
      go_ret2
      exact ⟨rfl, hG10⟩

end Go.Proofs.Ytkimdkgijfknlaa
