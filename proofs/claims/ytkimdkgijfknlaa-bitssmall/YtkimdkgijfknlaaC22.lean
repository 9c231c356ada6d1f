/- What is proved here: contracts of the reference: Num, Denom of a ratio, its nearest whole number, over this seat's translation. -/
import Derived.Test.YtkimdkgijfknlaaC20
import Derived.Test.YtkimdkgijfknlaaC16
namespace Go.Proofs.Ytkimdkgijfknlaa
open Go.ChangeShapes Go.WideShapes Go.ChangeAt Go.RowKit
open BN

theorem num_c (w : World) (b : Nat) :
    Calls Try.prog 56 #[.pointer (some ⟨b, 0, none⟩)] w fun e w' => e = .returned (.pointer (some ⟨b, 0, none⟩)) ∧ G w w' := by
  go_enter Try.func56, Try.ntmps56
  go_wp2_with fail
  go_ret
  exact ⟨rfl, G.refl _⟩

theorem denom_c (w : World) (b : Nat) (sa : Int) (B K : Nat) (hK : K ≤ 100000) (hB2 : B < 2 ^ (32 * K)) (hB0 : 0 < B) (hb : b < w.heap.size) (h : RatIs w b sa (B : Int)) :
    Calls Try.prog 57 #[.pointer (some ⟨b, 0, none⟩)] w (RetI w (B : Int)) := by
  have HR : Hid (RatIs w b sa (B : Int)) := h
  have HB : Hid ((B : Int) ≠ 0) := by show (B : Int) ≠ 0; omega
  have HB2 : Hid ((B : Int).natAbs < 2 ^ (32 * K)) := by show (B : Int).natAbs < 2 ^ (32 * K); rw [Int.natAbs_natCast]; exact hB2
  clear h hB0 hB2
  go_enter Try.func57, Try.ntmps57
  go_wp2_with fail
  have hn0 := NI.new (G.refl w) 62
  have hGa := (G.refl w).alloc (.cells #[.bool false, .slice none 0 0] 62)
  obtain ⟨pn, hpn⟩ : ∃ pn, pn = w.heap.size := ⟨_, rfl⟩
  rw [← hpn] at hn0 ⊢
  have hpw : w.heap.size ≤ pn := by omega
  clear hpn
  generalize w.alloc (.cells #[.bool false, .slice none 0 0] 62) = wa at *
  have HN0 : Hid (NI w wa pn 0) := hn0
  clear hn0
  refine Calls.mono (P := Try.prog) (den_c wa b sa B HB.out (HR.out.G hb hGa)) ?_
  rintro e w2 ⟨rfl, hg2⟩
  have hG2 := G.trans hGa hg2
  have HN2 : Hid (NI w w2 pn 0) := HN0.out.G hg2
  have HL : Hid _ := set_c w2 pn 0 b 2 0 (B : Int) K (by omega) HB2.out HN2.out.2.1 (G.lt hG2 hb) HN2.out.2.2 (HR.out.G hb hG2).2
  clear hGa hg2 HN0
  go_wp2_with fail
  refine Calls.mono (P := Try.prog) HL.out ?_
  intro e w3 hs
  obtain ⟨p, rfl, h3⟩ := SetTo.ret hG2 hpw HN2.out.2.1 hs
  clear hs HL
  go_wp2_with fail
  go_ret
  exact ⟨p, rfl, h3⟩

set_option maxRecDepth 10000 in
set_option maxHeartbeats 4000000 in
theorem nearInt_c (w : World) (b N D K : Nat) (hK : K ≤ 10000) (hN2 : N < 2 ^ (32 * K)) (hD2 : D < 2 ^ (32 * K)) (hD0 : 0 < D) (hb : b < w.heap.size) (h : RatIs w b (N : Int) (D : Int)) :
    Calls Try.prog 31 #[.pointer (some ⟨b, 0, none⟩)] w (RetI w ((roundQ N D : Nat) : Int)) := by
  have HR : Hid (RatIs w b (N : Int) (D : Int)) := h
  have HD0 : Hid ((D : Int) ≠ 0) := by show (D : Int) ≠ 0; omega
  have HN2 : Hid ((N : Int).natAbs < 2 ^ (32 * K)) := by show (N : Int).natAbs < 2 ^ (32 * K); rw [Int.natAbs_natCast]; exact hN2
  have HD2 : Hid ((D : Int).natAbs < 2 ^ (32 * K)) := by show (D : Int).natAbs < 2 ^ (32 * K); rw [Int.natAbs_natCast]; exact hD2
  have HDN : Hid (∀ w1, G w w1 → _) := fun w1 g => denom_c w1 b (N : Int) D K (by omega) hD2 hD0 (G.lt g hb) (h.G hb g)
  have hmd : N % D ≤ N := Nat.mod_le _ _
  have h2 : 2 ^ (32 * K) * 2 ≤ 2 ^ (32 * (K + 1)) := by rw [← Nat.pow_succ]; exact Nat.pow_le_pow_right (by omega) (by omega)
  have HMD : Hid (((N % D : Nat) : Int).natAbs < 2 ^ (32 * K)) := by show ((N % D : Nat) : Int).natAbs < 2 ^ (32 * K); rw [Int.natAbs_natCast]; omega
  have HMD2 : Hid (((N % D * 2 : Nat) : Int).natAbs < 2 ^ (32 * (K + 1))) := by show ((N % D * 2 : Nat) : Int).natAbs < 2 ^ (32 * (K + 1)); rw [Int.natAbs_natCast]; omega
  have HDD : Hid ((D : Int).natAbs < 2 ^ (32 * (K + 1))) := by show (D : Int).natAbs < 2 ^ (32 * (K + 1)); rw [Int.natAbs_natCast]; omega
  have hND := Nat.div_le_self N D
  have HNDK : Hid (((N / D : Nat) : Int).natAbs < 2 ^ (32 * K)) := by show ((N / D : Nat) : Int).natAbs < 2 ^ (32 * K); rw [Int.natAbs_natCast]; omega
  have HNDB : Hid (((N / D : Nat) : Int).natAbs < 2 ^ (32 * (K + 1)) ∧ (1 : Int).natAbs < 2 ^ (32 * (K + 1))) := ⟨by rw [Int.natAbs_natCast]; omega, Nat.one_lt_two_pow (by omega)⟩
  clear h hN2 hD2 hD0 hmd h2 hND
  go_enter Try.func31, Try.ntmps31
  go_wp2_with fail
  have hq0 := NI.new (G.refl w) 62
  have hG1 := (G.refl w).alloc (.cells #[.bool false, .slice none 0 0] 62)
  generalize w.heap.size = pq at hq0 ⊢
  generalize w.alloc (.cells #[.bool false, .slice none 0 0] 62) = w1 at *
  refine Calls.mono (P := Try.prog) (num_c w1 b) ?_
  rintro e w2 ⟨rfl, hg2⟩
  have hG2 := G.trans hG1 hg2
  have HQ2 : Hid (NI w w2 pq 0) := hq0.G hg2
  clear hq0 hG1 hg2
  go_wp2_with fail
  refine Calls.mono (P := Try.prog) (HDN.out w2 hG2) ?_
  intro e w3 hni
  obtain ⟨pd, rfl, hg3, hpd1, hpd2, hpdi⟩ := hni
  have hG3 := G.trans hG2 hg3
  have HQ3 : Hid (NI w w3 pq 0) := HQ2.out.G hg3
  have hsz := hG2.size
  have hdq : pd ≠ pq := by have := HQ2.out.2.1; omega
  have HD3 : Hid (NI w w3 pd (D : Int)) := ⟨by omega, hpd2, hpdi⟩
  clear hg3 hpd1 hpd2 hpdi hsz HQ2 hG2
  go_wp2_with fail
  have hr0 := NI.new hG3 62
  have hg4 := (G.refl w3).alloc (.cells #[.bool false, .slice none 0 0] 62)
  have hG4 := G.trans hG3 hg4
  have hqr : w3.heap.size ≠ pq := by have := HQ3.out.2.1; omega
  have hdr : pd ≠ w3.heap.size := by have := HD3.out.2.1; omega
  have hQ4 := HQ3.out.G hg4
  have hD4 := HD3.out.G hg4
  generalize w3.heap.size = pr at *
  generalize w3.alloc (.cells #[.bool false, .slice none 0 0] 62) = w4 at *
  clear hg4 HQ3 HD3 hG3
  refine Calls.mono (P := Try.prog) (quoRem_c w4 pq 0 b 0 pd 0 pr 0 0 0 N D K (by omega) HN2.out HD2.out HD0.out hQ4.2.1 hr0.2.1 (G.lt hG4 hb) hD4.2.1 hQ4.2.2 hr0.2.2 (Or.inl hqr) (IntIs.G HR.out.1 hb hG4) hD4.2.2) ?_
  intro e w6 hqr6
  obtain ⟨rfl, w5, e1, e2, hs5, hs6⟩ := hqr6
  obtain ⟨-, hG5, hQ5, -, hk5⟩ := SetTo.step hG4 hQ4 hs5
  have hR5 := hk5 pr 0 hqr hr0
  obtain ⟨-, hG6, hR6, -, hk6⟩ := SetTo.step hG5 hR5 hs6
  have hQ6 := hk6 pq _ hqr.symm hQ5
  rw [show Int.tdiv (N : Int) D = ((N / D : Nat) : Int) from rfl] at hQ6
  rw [show Int.tmod (N : Int) D = ((N % D : Nat) : Int) from rfl] at hR6
  have HQ6 : Hid (NI w w6 pq ((N / D : Nat) : Int)) := hQ6
  have HR6 : Hid (NI w w6 pr ((N % D : Nat) : Int)) := hR6
  clear hs5 hs6 hk5 hk6 hQ5 hR5 hQ6 hR6 hQ4 hD4 hr0 hG4 hG5 hdr hdq hqr
  go_wp2_with fail
  have hc0 := NI.new hG6 62
  have ha1 := (G.refl w6).alloc (.cells #[.bool false, .slice none 0 0] 62)
  have hR7 := HR6.out.G ha1
  have hQ7 := HQ6.out.G ha1
  have hG7 := G.trans hG6 ha1
  have hcq : pq ≠ w6.heap.size := by have := HQ6.out.2.1; omega
  generalize w6.heap.size = pc at *
  generalize w6.alloc (.cells #[.bool false, .slice none 0 0] 62) = w7 at *
  have HC0 : Hid (NI w w7 pc 0) := hc0
  clear hc0 HQ6 HR6 ha1 hG6
  refine Calls.mono (P := Try.prog) (lshI_c w7 pc 0 pr 0 1 0 _ K (by omega) (by omega) HMD.out HC0.out.2.1 hR7.2.1 HC0.out.2.2 hR7.2.2) ?_
  intro e w8 hs
  obtain ⟨rfl, hG8, hC8, -, hk8⟩ := SetTo.step hG7 HC0.out hs
  have hQ8 := hk8 pq _ hcq hQ7
  rw [show ((N % D : Nat) : Int) * 2 ^ 1 = ((N % D * 2 : Nat) : Int) from by push_cast; rfl] at hC8
  have HC8 : Hid (NI w w8 pc ((N % D * 2 : Nat) : Int)) := hC8
  have HQ8 : Hid (NI w w8 pq ((N / D : Nat) : Int)) := hQ8
  clear hs hk8 hC8 hQ8 hQ7 hR7 HC0 hG7 hcq
  go_wp2_with fail
  refine Calls.mono (P := Try.prog) (HDN.out w8 hG8) ?_
  intro e w9 hni
  obtain ⟨pe, rfl, hg9, -, hpe2, hpei⟩ := hni
  have hG9 := G.trans hG8 hg9
  have hC9 := HC8.out.G hg9
  have HQ9 : Hid (NI w w9 pq ((N / D : Nat) : Int)) := HQ8.out.G hg9
  have HCm : Hid _ := cmpI_c w9 pc 0 pe 0 _ _ (K + 1) (by omega) HMD2.out HDD.out hC9.2.1 hpe2 hC9.2.2 hpei
  clear hg9 HC8 HQ8 hC9 hpe2 hpei hG8
  go_wp2_with fail
  refine Calls.mono (P := Try.prog) HCm.out ?_
  rintro e w11 ⟨rfl, hg11⟩
  have hG11 := G.trans hG9 hg11
  have HQ11 : Hid (NI w w11 pq ((N / D : Nat) : Int)) := HQ9.out.G hg11
  have HRQ : Hid (roundQ N D = N / D + (if 0 < cmpI ((N % D * 2 : Nat) : Int) (D : Int) ∨ (cmpI ((N % D * 2 : Nat) : Int) (D : Int) = 0 ∧ N / D % 2 = 1) then 1 else 0)) := cmp_round
  have hcv : cmpI ((N % D * 2 : Nat) : Int) (D : Int) = 1 ∨ cmpI ((N % D * 2 : Nat) : Int) (D : Int) = 0 ∨ cmpI ((N % D * 2 : Nat) : Int) (D : Int) = -1 := by unfold cmpI; split <;> (try split) <;> simp
  generalize cmpI ((N % D * 2 : Nat) : Int) (D : Int) = cv at *
  generalize N / D = Q0 at *
  clear hg11 HQ9 HCm hG9 HMD HMD2 HDD HDN HN2 HD2 HD0 HR
  rcases hcv with rfl | rfl | rfl
  · as_aux_lemma =>
      rw [if_pos (by omega)] at HRQ
      have HQ12 := HQ11
      have hG12 := hG11
      clear HQ11 hG11
      go_wp2_with fail
      refine Calls.mono (P := Try.prog) (newI_c _ 1 (by omega)) ?_
      intro e w13 hni
      obtain ⟨p1, rfl, hg13, hp1a, hp1b, hp1i⟩ := hni
      have hG13 := G.trans hG12 hg13
      have hQ13 := HQ12.out.G hg13
      have HAD : Hid _ := addI_c w13 pq 0 pq 0 p1 0 Q0 Q0 1 (K + 1) (by omega) HNDB.out.1 HNDB.out.2 hQ13.2.1 hQ13.2.1 hp1b hQ13.2.2 hQ13.2.2 hp1i
      have HQ13 : Hid (NI w w13 pq (Q0 : Int)) := hQ13
      clear hg13 HQ12 hQ13 hp1a hp1b hp1i hG12
      go_wp2_with fail
      refine Calls.mono (P := Try.prog) HAD.out ?_
      intro e w14 hs
      obtain ⟨rfl, hG14, hQ14, -, -⟩ := SetTo.step hG13 HQ13.out hs
      rw [show (Q0 : Int) + 1 = ((Q0 + 1 : Nat) : Int) from by omega, ← HRQ.out] at hQ14
      have HQ14 : Hid (NI w w14 pq ((roundQ N D : Nat) : Int)) := hQ14
      clear hs hQ14 HAD HQ13 hG13
      go_wp2_with fail
      go_ret
      exact ⟨pq, rfl, hG14, HQ14.out.1, HQ14.out.2.1, HQ14.out.2.2⟩
  · obtain ⟨z, hz, hz1⟩ : ∃ z : Nat, Q0 / 2 ^ 0 % 2 = z ∧ z ≤ 1 := ⟨_, rfl, by omega⟩
    have HBt : Hid _ := bitI_c w11 pq 0 0 Q0 K (by omega) (by omega) HNDK.out (by omega) HQ11.out.2.2
    rw [Int.natAbs_natCast, hz] at HBt
    rw [Nat.pow_zero, Nat.div_one] at hz
    rw [hz] at HRQ
    clear hz
    go_wp2_with fail
    refine Calls.mono (P := Try.prog) HBt.out ?_
    rintro e w12 ⟨rfl, hg12⟩
    have hG12 := G.trans hG11 hg12
    have HQ12 : Hid (NI w w12 pq (Q0 : Int)) := HQ11.out.G hg12
    clear hg12 HQ11 hG11 HBt
    by_cases hz0 : z = 1
    · as_aux_lemma =>
        subst hz0
        rw [if_pos (by simp)] at HRQ
        go_wp2_with fail
        refine Calls.mono (P := Try.prog) (newI_c _ 1 (by omega)) ?_
        intro e w13 hni
        obtain ⟨p1, rfl, hg13, hp1a, hp1b, hp1i⟩ := hni
        have hG13 := G.trans hG12 hg13
        have hQ13 := HQ12.out.G hg13
        have HAD : Hid _ := addI_c w13 pq 0 pq 0 p1 0 Q0 Q0 1 (K + 1) (by omega) HNDB.out.1 HNDB.out.2 hQ13.2.1 hQ13.2.1 hp1b hQ13.2.2 hQ13.2.2 hp1i
        have HQ13 : Hid (NI w w13 pq (Q0 : Int)) := hQ13
        clear hg13 HQ12 hQ13 hp1a hp1b hp1i hG12
        go_wp2_with fail
        refine Calls.mono (P := Try.prog) HAD.out ?_
        intro e w14 hs
        obtain ⟨rfl, hG14, hQ14, -, -⟩ := SetTo.step hG13 HQ13.out hs
        rw [show (Q0 : Int) + 1 = ((Q0 + 1 : Nat) : Int) from by omega, ← HRQ.out] at hQ14
        have HQ14 : Hid (NI w w14 pq ((roundQ N D : Nat) : Int)) := hQ14
        clear hs hQ14 HAD HQ13 hG13
        go_wp2_with fail
        go_ret
        exact ⟨pq, rfl, hG14, HQ14.out.1, HQ14.out.2.1, HQ14.out.2.2⟩
    · as_aux_lemma =>
        obtain rfl : z = 0 := by omega
        rw [if_neg (by simp)] at HRQ
        have hQ14 := HQ12.out
        rw [← Nat.add_zero Q0, ← HRQ.out] at hQ14
        have HQ14 : Hid (NI w _ pq ((roundQ N D : Nat) : Int)) := hQ14
        clear hQ14 HQ12
        go_wp2_with fail
        go_ret
        exact ⟨pq, rfl, hG12, HQ14.out.1, HQ14.out.2.1, HQ14.out.2.2⟩
  · as_aux_lemma =>
      rw [if_neg (by omega)] at HRQ
      have HQ12 := HQ11
      have hG12 := hG11
      clear HQ11 hG11
      have hQ14 := HQ12.out
      rw [← Nat.add_zero Q0, ← HRQ.out] at hQ14
      have HQ14 : Hid (NI w _ pq ((roundQ N D : Nat) : Int)) := hQ14
      clear hQ14 HQ12
      go_wp2_with fail
      go_ret
      exact ⟨pq, rfl, hG12, HQ14.out.1, HQ14.out.2.1, HQ14.out.2.2⟩

end Go.Proofs.Ytkimdkgijfknlaa
