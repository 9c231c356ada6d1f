/- What is proved here: contracts of the reference's ratios: Quo of Rat (by one above 0), over this seat's translation. -/
import Derived.Test.YtkimdkgijfknlaaC20
namespace Go.Proofs.Ytkimdkgijfknlaa
open Go.ChangeShapes Go.WideShapes Go.ChangeAt Go.RowKit
open BN

set_option maxHeartbeats 8000000 in
theorem quoR_c (w : World) (bz bx b2 : Nat) (s1 s2 xa : Int) (ya xb yb : Nat) (KB : Nat) (hK : KB ≤ 100000) (hx2 : xa.natAbs < 2 ^ (32 * KB)) (hy2 : ya < 2 ^ (32 * KB)) (hxb2 : xb < 2 ^ (32 * KB)) (hyb2 : yb < 2 ^ (32 * KB)) (hxb : 0 < xb) (hyb : 0 < yb) (hya : 0 < ya)
    (hbz : bz < w.heap.size) (hbx : bx < w.heap.size) (hby : b2 < w.heap.size) (hz : RatIs w bz s1 s2) (hx : RatIs w bx xa xb) (hy : RatIs w b2 ya yb) :
    Calls Try.prog 28 #[.pointer (some ⟨bz, 0, none⟩), .pointer (some ⟨bx, 0, none⟩), .pointer (some ⟨b2, 0, none⟩)] w (NormTo w bz (Int.tdiv (xa * yb) (Nat.gcd (xa * yb).natAbs (xb * ya) : Nat)) (xb * ya / Nat.gcd (xa * yb).natAbs (xb * ya))) := by
  have HB01 : Hid (xa.natAbs < 2 ^ (32 * KB)) := hx2
  have HB02 : Hid ((ya : Int).natAbs < 2 ^ (32 * KB)) := by show (ya : Int).natAbs < 2 ^ (32 * KB); rw [Int.natAbs_natCast]; exact hy2
  have HB21 : Hid ((xb : Int).natAbs < 2 ^ (32 * KB)) := by show (xb : Int).natAbs < 2 ^ (32 * KB); rw [Int.natAbs_natCast]; exact hxb2
  have HB22 : Hid ((yb : Int).natAbs < 2 ^ (32 * KB)) := by show (yb : Int).natAbs < 2 ^ (32 * KB); rw [Int.natAbs_natCast]; exact hyb2
  have HX0 : Hid (IntIs w bx 0 xa) := hx.1
  have HY0 : Hid (IntIs w b2 0 ya) := hy.1
  have HX2 : Hid (IntIs w bx 2 xb) := hx.2
  have HY2 : Hid (IntIs w b2 2 yb) := hy.2
  have HXR : Hid (RatIs w bx xa xb) := hx
  have HYR : Hid (RatIs w b2 ya yb) := hy
  have HZR : Hid (RatIs w bz s1 s2) := hz
  have hxb0 : (xb : Int) ≠ 0 := by omega
  have hyb0 : (yb : Int) ≠ 0 := by omega
  have HN2 : Hid ((xa * yb).natAbs < 2 ^ (32 * (2 * KB))) := by
    show (xa * yb).natAbs < 2 ^ (32 * (2 * KB))
    rw [Int.natAbs_mul, Int.natAbs_natCast, show 32 * (2 * KB) = 32 * KB + 32 * KB from by omega, Nat.pow_add]
    exact Nat.mul_lt_mul'' hx2 hyb2
  have HD2 : Hid (xb * ya < 2 ^ (32 * (2 * KB))) := by
    show xb * ya < 2 ^ (32 * (2 * KB))
    rw [show 32 * (2 * KB) = 32 * KB + 32 * KB from by omega, Nat.pow_add]
    exact Nat.mul_lt_mul'' hxb2 hy2
  have HD0 : Hid (0 < xb * ya) := Nat.mul_pos hxb hya
  clear hx hy hz hx2 hy2 hxb2 hyb2 hxb hyb hya
  go_enter Try.func28, Try.ntmps28
  go_wp2_with fail
  refine wp_region_any (by kernel_rfl) ?_
  refine wpAny_takeL (i := 0) (v := ?_) rfl (by kernel_rfl) (by kernel_rfl) (by kernel_rfl) (fun _ _ _ h => h) (Or.inl ⟨by rfl, ?_⟩) ?_
  rotate_left
  · intro wq; first | (go_simp; done) | (go_simp; with_reducible rfl)
  try simp only [Act.put, List.setIfInBounds_toArray, List.set_cons_zero, List.set_cons_succ]
  refine wpAny_takeL (i := 2) (v := ?_) rfl (by kernel_rfl) (by kernel_rfl) (by kernel_rfl) (fun _ _ _ h => h) (Or.inl ⟨by rfl, ?_⟩) ?_
  rotate_left
  · intro wq; first | (go_simp; done) | (go_simp; with_reducible rfl)
  try simp only [Act.put, List.setIfInBounds_toArray, List.set_cons_zero, List.set_cons_succ]
  refine wpAny_takeL (i := 3) (v := ?_) rfl (by kernel_rfl) (by kernel_rfl) (by kernel_rfl) (fun _ _ _ h => h) (Or.inl ⟨by rfl, ?_⟩) ?_
  rotate_left
  · intro wq; first | (go_simp; done) | (go_simp; with_reducible rfl)
  try simp only [Act.put, List.setIfInBounds_toArray, List.set_cons_zero, List.set_cons_succ]
  refine wpAny_takeL (i := 4) (v := ?_) rfl (by kernel_rfl) (by kernel_rfl) (by kernel_rfl) (fun _ _ _ h => h) (Or.inl ⟨by rfl, ?_⟩) ?_
  rotate_left
  · intro wq; first | (go_simp; done) | (go_simp; with_reducible rfl)
  try simp only [Act.put, List.setIfInBounds_toArray, List.set_cons_zero, List.set_cons_succ]
  refine wpAny_takeL (i := 5) (v := ?_) rfl (by kernel_rfl) (by kernel_rfl) (by kernel_rfl) (fun _ _ _ h => h) (Or.inl ⟨by rfl, ?_⟩) ?_
  rotate_left
  · intro wq; first | (go_simp; done) | (go_simp; with_reducible rfl)
  try simp only [Act.put, List.setIfInBounds_toArray, List.set_cons_zero, List.set_cons_succ]
  refine wpAny_takeL (i := 9) (v := ?_) rfl (by kernel_rfl) (by kernel_rfl) (by kernel_rfl) (fun _ _ _ h => h) (Or.inl ⟨by rfl, ?_⟩) ?_
  rotate_left
  · intro wq; first | (go_simp; done) | (go_simp; with_reducible rfl)
  try simp only [Act.put, List.setIfInBounds_toArray, List.set_cons_zero, List.set_cons_succ]
  refine wpAny_takeL (i := 11) (v := ?_) rfl (by kernel_rfl) (by kernel_rfl) (by kernel_rfl) (fun _ _ _ h => h) (Or.inl ⟨by rfl, ?_⟩) ?_
  rotate_left
  · intro wq; first | (go_simp; done) | (go_simp; with_reducible rfl)
  try simp only [Act.put, List.setIfInBounds_toArray, List.set_cons_zero, List.set_cons_succ]
  refine wpAny_takeL (i := 12) (v := ?_) rfl (by kernel_rfl) (by kernel_rfl) (by kernel_rfl) (fun _ _ _ h => h) (Or.inl ⟨by rfl, ?_⟩) ?_
  rotate_left
  · intro wq; first | (go_simp; done) | (go_simp; with_reducible rfl)
  try simp only [Act.put, List.setIfInBounds_toArray, List.set_cons_zero, List.set_cons_succ]
  refine wpAny_takeL (i := 13) (v := ?_) rfl (by kernel_rfl) (by kernel_rfl) (by kernel_rfl) (fun _ _ _ h => h) (Or.inl ⟨by rfl, ?_⟩) ?_
  rotate_left
  · intro wq; first | (go_simp; done) | (go_simp; with_reducible rfl)
  try simp only [Act.put, List.setIfInBounds_toArray, List.set_cons_zero, List.set_cons_succ]
  have hG0 : G w w.drew := (G.refl w).drew
  show wpAny _ _ _ _ _ _ _ w.drew
  generalize hwc : w.drew = w0 at *
  clear hwc
  refine wpAny_ready (rs := [1, 6, 8]) (by kernel_rfl) (by simp) ?_
  refine (AllReady.cons rfl (fun K hK => ?_) (AllReady.cons rfl (fun K hK => ?_) (AllReady.cons rfl (fun K hK => ?_) AllReady.nil)))
  · as_aux_lemma =>
      go_simp
      refine hK _ _ ?_
      clear hK K
      have hal := (G.refl w0).alloc (.cells #[.bool false, .slice none 0 0] 62)
      have hnw := NI.new hG0 62
      have hG1 := G.trans hG0 hal
      generalize w0.heap.size = pn at *
      generalize w0.alloc (.cells #[.bool false, .slice none 0 0] 62) = w1 at *
      have HP : Hid (NI w w1 pn 0) := hnw
      clear hal hnw hG0
      refine wpAny_ready (rs := [6, 8]) (by kernel_rfl) (by simp) ?_
      refine (AllReady.cons rfl (fun K hK => ?_) (AllReady.cons rfl (fun K hK => ?_) AllReady.nil))
      · as_aux_lemma =>
          go_simp
          go_wp2_with (go_at_call 52; refine Calls.mono (P := Try.prog) (den_c w1 b2 ya yb hyb0 (HYR.out.G hby hG1)) ?_; rintro e w2 ⟨rfl, hgn⟩)
          have HP' := HP.out.G hgn
          replace HP : Hid (NI w w2 pn 0) := HP'
          clear HP'
          have hG2 := G.trans hG1 hgn
          clear hgn hG1
          refine wpAny_ready (rs := [7, 8]) (by kernel_rfl) (by simp) ?_
          refine (AllReady.cons rfl (fun K hK => ?_) (AllReady.cons rfl (fun K hK => ?_) AllReady.nil))
          · as_aux_lemma =>
              go_simp
              go_wp2_with (go_at_call 51; refine Calls.mono (P := Try.prog) (mulI_c w2 pn 0 bx 0 b2 2 0 xa yb KB (by omega) HB01.out HB22.out HP.out.2.1 (G.lt hG2 hbx) (G.lt hG2 hby) HP.out.2.2 (IntIs.G HX0.out hbx hG2) (IntIs.G HY2.out hby hG2)) ?_; intro e w3 hs; obtain ⟨rfl, hG3, hnw, -, hkp⟩ := SetTo.step hG2 HP.out hs)
              replace HP : Hid (NI w w3 pn (xa * yb)) := hnw
              clear hs hkp hnw hG2
              refine wpAny_ready (rs := [8, 10]) (by kernel_rfl) (by simp) ?_
              refine (AllReady.cons rfl (fun K hK => ?_) (AllReady.cons rfl (fun K hK => ?_) AllReady.nil))
              · as_aux_lemma =>
                  go_simp
                  refine hK _ _ ?_
                  clear hK K
                  have hal := (G.refl w3).alloc (.cells #[.bool false, .slice none 0 0] 62)
                  have hnw := NI.new hG3 62
                  have HP' := HP.out.G hal
                  have hne : w3.heap.size ≠ pn := by have := HP.out.2.1; omega
                  have hG4 := G.trans hG3 hal
                  generalize w3.heap.size = pd at *
                  generalize w3.alloc (.cells #[.bool false, .slice none 0 0] 62) = w4 at *
                  have HQ : Hid (NI w w4 pd 0) := hnw
                  replace HP : Hid (NI w w4 pn (xa * yb)) := HP'
                  have HNE : Hid (pn ≠ pd) := hne.symm
                  clear HP' hne
                  clear hal hnw hG3
                  refine wpAny_ready (rs := [10]) (by kernel_rfl) (by simp) ?_
                  refine (AllReady.cons rfl (fun K hK => ?_) AllReady.nil)
                  go_simp
                  go_wp2_with (go_at_call 52; refine Calls.mono (P := Try.prog) (den_c w4 bx xa xb hxb0 (HXR.out.G hbx hG4)) ?_; rintro e w5 ⟨rfl, hgn⟩)
                  have HP' := HP.out.G hgn
                  replace HP : Hid (NI w w5 pn (xa * yb)) := HP'
                  clear HP'
                  have HQ' := HQ.out.G hgn
                  replace HQ : Hid (NI w w5 pd 0) := HQ'
                  clear HQ'
                  have hG5 := G.trans hG4 hgn
                  clear hgn hG4
                  refine wpAny_ready (rs := [14]) (by kernel_rfl) (by simp) ?_
                  refine (AllReady.cons rfl (fun K hK => ?_) AllReady.nil)
                  go_simp
                  go_wp2_with (go_at_call 51; refine Calls.mono (P := Try.prog) (mulI_c w5 pd 0 bx 2 b2 0 0 xb ya KB (by omega) HB21.out HB02.out HQ.out.2.1 (G.lt hG5 hbx) (G.lt hG5 hby) HQ.out.2.2 (IntIs.G HX2.out hbx hG5) (IntIs.G HY0.out hby hG5)) ?_; intro e w6 hs; obtain ⟨rfl, hG6, hnw, -, hkp⟩ := SetTo.step hG5 HQ.out hs)
                  have HP' := hkp pn (xa * yb) HNE.out HP.out
                  replace HQ : Hid (NI w w6 pd ((xb : Int) * ya)) := hnw
                  replace HP : Hid (NI w w6 pn (xa * yb)) := HP'
                  clear HP'
                  clear hs hkp hnw hG5
                  refine wpAny_ready (rs := [15]) (by kernel_rfl) (by simp) ?_
                  refine (AllReady.cons rfl (fun K hK => ?_) AllReady.nil)
                  go_simp
                  have hpq : (xb : Int) * ya = ((xb * ya : Nat) : Int) := by push_cast; rfl
                  rw [hpq] at HQ
                  clear hpq
                  go_wp2_with (go_at_call 50; refine Calls.mono (P := Try.prog) (setFrac_c w6 bz pn 0 pd 0 s1 s2 (xa * yb) (xb * ya) (2 * KB) (by omega) HN2.out HD2.out HD0.out (G.lt hG6 hbz) HP.out.2.1 HQ.out.2.1 (HZR.out.G hbz hG6) HP.out.2.2 HQ.out.2.2) ?_; intro e w7 hs; obtain ⟨rfl, k1, k2⟩ := NormTo.after hG6 hs)
                  have HK2 : Hid _ := k2
                  clear hs k2
                  refine wpAny_ready (rs := [16]) (by kernel_rfl) (by simp) ?_
                  refine (AllReady.cons rfl (fun K hK => ?_) AllReady.nil)
                  go_simp
                  first | (refine hK _ _ ?_; clear hK K) | skip
                  refine wpAny_done (by kernel_rfl) ?_ _
                  go_wp2_with fail
                  go_ret
                  exact ⟨rfl, k1, HK2.out⟩
              · as_aux_lemma =>
                  go_simp
                  go_wp2_with (go_at_call 52; refine Calls.mono (P := Try.prog) (den_c w3 bx xa xb hxb0 (HXR.out.G hbx hG3)) ?_; rintro e w4 ⟨rfl, hgn⟩)
                  have HP' := HP.out.G hgn
                  replace HP : Hid (NI w w4 pn (xa * yb)) := HP'
                  clear HP'
                  have hG4 := G.trans hG3 hgn
                  clear hgn hG3
                  refine wpAny_ready (rs := [8]) (by kernel_rfl) (by simp) ?_
                  refine (AllReady.cons rfl (fun K hK => ?_) AllReady.nil)
                  go_simp
                  refine hK _ _ ?_
                  clear hK K
                  have hal := (G.refl w4).alloc (.cells #[.bool false, .slice none 0 0] 62)
                  have hnw := NI.new hG4 62
                  have HP' := HP.out.G hal
                  have hne : w4.heap.size ≠ pn := by have := HP.out.2.1; omega
                  have hG5 := G.trans hG4 hal
                  generalize w4.heap.size = pd at *
                  generalize w4.alloc (.cells #[.bool false, .slice none 0 0] 62) = w5 at *
                  have HQ : Hid (NI w w5 pd 0) := hnw
                  replace HP : Hid (NI w w5 pn (xa * yb)) := HP'
                  have HNE : Hid (pn ≠ pd) := hne.symm
                  clear HP' hne
                  clear hal hnw hG4
                  refine wpAny_ready (rs := [14]) (by kernel_rfl) (by simp) ?_
                  refine (AllReady.cons rfl (fun K hK => ?_) AllReady.nil)
                  go_simp
                  go_wp2_with (go_at_call 51; refine Calls.mono (P := Try.prog) (mulI_c w5 pd 0 bx 2 b2 0 0 xb ya KB (by omega) HB21.out HB02.out HQ.out.2.1 (G.lt hG5 hbx) (G.lt hG5 hby) HQ.out.2.2 (IntIs.G HX2.out hbx hG5) (IntIs.G HY0.out hby hG5)) ?_; intro e w6 hs; obtain ⟨rfl, hG6, hnw, -, hkp⟩ := SetTo.step hG5 HQ.out hs)
                  have HP' := hkp pn (xa * yb) HNE.out HP.out
                  replace HQ : Hid (NI w w6 pd ((xb : Int) * ya)) := hnw
                  replace HP : Hid (NI w w6 pn (xa * yb)) := HP'
                  clear HP'
                  clear hs hkp hnw hG5
                  refine wpAny_ready (rs := [15]) (by kernel_rfl) (by simp) ?_
                  refine (AllReady.cons rfl (fun K hK => ?_) AllReady.nil)
                  go_simp
                  have hpq : (xb : Int) * ya = ((xb * ya : Nat) : Int) := by push_cast; rfl
                  rw [hpq] at HQ
                  clear hpq
                  go_wp2_with (go_at_call 50; refine Calls.mono (P := Try.prog) (setFrac_c w6 bz pn 0 pd 0 s1 s2 (xa * yb) (xb * ya) (2 * KB) (by omega) HN2.out HD2.out HD0.out (G.lt hG6 hbz) HP.out.2.1 HQ.out.2.1 (HZR.out.G hbz hG6) HP.out.2.2 HQ.out.2.2) ?_; intro e w7 hs; obtain ⟨rfl, k1, k2⟩ := NormTo.after hG6 hs)
                  have HK2 : Hid _ := k2
                  clear hs k2
                  refine wpAny_ready (rs := [16]) (by kernel_rfl) (by simp) ?_
                  refine (AllReady.cons rfl (fun K hK => ?_) AllReady.nil)
                  go_simp
                  first | (refine hK _ _ ?_; clear hK K) | skip
                  refine wpAny_done (by kernel_rfl) ?_ _
                  go_wp2_with fail
                  go_ret
                  exact ⟨rfl, k1, HK2.out⟩
          · as_aux_lemma =>
              go_simp
              refine hK _ _ ?_
              clear hK K
              have hal := (G.refl w2).alloc (.cells #[.bool false, .slice none 0 0] 62)
              have hnw := NI.new hG2 62
              have HP' := HP.out.G hal
              have hne : w2.heap.size ≠ pn := by have := HP.out.2.1; omega
              have hG3 := G.trans hG2 hal
              generalize w2.heap.size = pd at *
              generalize w2.alloc (.cells #[.bool false, .slice none 0 0] 62) = w3 at *
              have HQ : Hid (NI w w3 pd 0) := hnw
              replace HP : Hid (NI w w3 pn 0) := HP'
              have HNE : Hid (pn ≠ pd) := hne.symm
              clear HP' hne
              clear hal hnw hG2
              refine wpAny_ready (rs := [7]) (by kernel_rfl) (by simp) ?_
              refine (AllReady.cons rfl (fun K hK => ?_) AllReady.nil)
              go_simp
              go_wp2_with (go_at_call 51; refine Calls.mono (P := Try.prog) (mulI_c w3 pn 0 bx 0 b2 2 0 xa yb KB (by omega) HB01.out HB22.out HP.out.2.1 (G.lt hG3 hbx) (G.lt hG3 hby) HP.out.2.2 (IntIs.G HX0.out hbx hG3) (IntIs.G HY2.out hby hG3)) ?_; intro e w4 hs; obtain ⟨rfl, hG4, hnw, -, hkp⟩ := SetTo.step hG3 HP.out hs)
              have HQ' := hkp pd 0 HNE.out.symm HQ.out
              replace HP : Hid (NI w w4 pn (xa * yb)) := hnw
              replace HQ : Hid (NI w w4 pd 0) := HQ'
              clear HQ'
              clear hs hkp hnw hG3
              refine wpAny_ready (rs := [10]) (by kernel_rfl) (by simp) ?_
              refine (AllReady.cons rfl (fun K hK => ?_) AllReady.nil)
              go_simp
              go_wp2_with (go_at_call 52; refine Calls.mono (P := Try.prog) (den_c w4 bx xa xb hxb0 (HXR.out.G hbx hG4)) ?_; rintro e w5 ⟨rfl, hgn⟩)
              have HP' := HP.out.G hgn
              replace HP : Hid (NI w w5 pn (xa * yb)) := HP'
              clear HP'
              have HQ' := HQ.out.G hgn
              replace HQ : Hid (NI w w5 pd 0) := HQ'
              clear HQ'
              have hG5 := G.trans hG4 hgn
              clear hgn hG4
              refine wpAny_ready (rs := [14]) (by kernel_rfl) (by simp) ?_
              refine (AllReady.cons rfl (fun K hK => ?_) AllReady.nil)
              go_simp
              go_wp2_with (go_at_call 51; refine Calls.mono (P := Try.prog) (mulI_c w5 pd 0 bx 2 b2 0 0 xb ya KB (by omega) HB21.out HB02.out HQ.out.2.1 (G.lt hG5 hbx) (G.lt hG5 hby) HQ.out.2.2 (IntIs.G HX2.out hbx hG5) (IntIs.G HY0.out hby hG5)) ?_; intro e w6 hs; obtain ⟨rfl, hG6, hnw, -, hkp⟩ := SetTo.step hG5 HQ.out hs)
              have HP' := hkp pn (xa * yb) HNE.out HP.out
              replace HQ : Hid (NI w w6 pd ((xb : Int) * ya)) := hnw
              replace HP : Hid (NI w w6 pn (xa * yb)) := HP'
              clear HP'
              clear hs hkp hnw hG5
              refine wpAny_ready (rs := [15]) (by kernel_rfl) (by simp) ?_
              refine (AllReady.cons rfl (fun K hK => ?_) AllReady.nil)
              go_simp
              have hpq : (xb : Int) * ya = ((xb * ya : Nat) : Int) := by push_cast; rfl
              rw [hpq] at HQ
              clear hpq
              go_wp2_with (go_at_call 50; refine Calls.mono (P := Try.prog) (setFrac_c w6 bz pn 0 pd 0 s1 s2 (xa * yb) (xb * ya) (2 * KB) (by omega) HN2.out HD2.out HD0.out (G.lt hG6 hbz) HP.out.2.1 HQ.out.2.1 (HZR.out.G hbz hG6) HP.out.2.2 HQ.out.2.2) ?_; intro e w7 hs; obtain ⟨rfl, k1, k2⟩ := NormTo.after hG6 hs)
              have HK2 : Hid _ := k2
              clear hs k2
              refine wpAny_ready (rs := [16]) (by kernel_rfl) (by simp) ?_
              refine (AllReady.cons rfl (fun K hK => ?_) AllReady.nil)
              go_simp
              first | (refine hK _ _ ?_; clear hK K) | skip
              refine wpAny_done (by kernel_rfl) ?_ _
              go_wp2_with fail
              go_ret
              exact ⟨rfl, k1, HK2.out⟩
      · as_aux_lemma =>
          go_simp
          refine hK _ _ ?_
          clear hK K
          have hal := (G.refl w1).alloc (.cells #[.bool false, .slice none 0 0] 62)
          have hnw := NI.new hG1 62
          have HP' := HP.out.G hal
          have hne : w1.heap.size ≠ pn := by have := HP.out.2.1; omega
          have hG2 := G.trans hG1 hal
          generalize w1.heap.size = pd at *
          generalize w1.alloc (.cells #[.bool false, .slice none 0 0] 62) = w2 at *
          have HQ : Hid (NI w w2 pd 0) := hnw
          replace HP : Hid (NI w w2 pn 0) := HP'
          have HNE : Hid (pn ≠ pd) := hne.symm
          clear HP' hne
          clear hal hnw hG1
          refine wpAny_ready (rs := [6]) (by kernel_rfl) (by simp) ?_
          refine (AllReady.cons rfl (fun K hK => ?_) AllReady.nil)
          go_simp
          go_wp2_with (go_at_call 52; refine Calls.mono (P := Try.prog) (den_c w2 b2 ya yb hyb0 (HYR.out.G hby hG2)) ?_; rintro e w3 ⟨rfl, hgn⟩)
          have HP' := HP.out.G hgn
          replace HP : Hid (NI w w3 pn 0) := HP'
          clear HP'
          have HQ' := HQ.out.G hgn
          replace HQ : Hid (NI w w3 pd 0) := HQ'
          clear HQ'
          have hG3 := G.trans hG2 hgn
          clear hgn hG2
          refine wpAny_ready (rs := [7]) (by kernel_rfl) (by simp) ?_
          refine (AllReady.cons rfl (fun K hK => ?_) AllReady.nil)
          go_simp
          go_wp2_with (go_at_call 51; refine Calls.mono (P := Try.prog) (mulI_c w3 pn 0 bx 0 b2 2 0 xa yb KB (by omega) HB01.out HB22.out HP.out.2.1 (G.lt hG3 hbx) (G.lt hG3 hby) HP.out.2.2 (IntIs.G HX0.out hbx hG3) (IntIs.G HY2.out hby hG3)) ?_; intro e w4 hs; obtain ⟨rfl, hG4, hnw, -, hkp⟩ := SetTo.step hG3 HP.out hs)
          have HQ' := hkp pd 0 HNE.out.symm HQ.out
          replace HP : Hid (NI w w4 pn (xa * yb)) := hnw
          replace HQ : Hid (NI w w4 pd 0) := HQ'
          clear HQ'
          clear hs hkp hnw hG3
          refine wpAny_ready (rs := [10]) (by kernel_rfl) (by simp) ?_
          refine (AllReady.cons rfl (fun K hK => ?_) AllReady.nil)
          go_simp
          go_wp2_with (go_at_call 52; refine Calls.mono (P := Try.prog) (den_c w4 bx xa xb hxb0 (HXR.out.G hbx hG4)) ?_; rintro e w5 ⟨rfl, hgn⟩)
          have HP' := HP.out.G hgn
          replace HP : Hid (NI w w5 pn (xa * yb)) := HP'
          clear HP'
          have HQ' := HQ.out.G hgn
          replace HQ : Hid (NI w w5 pd 0) := HQ'
          clear HQ'
          have hG5 := G.trans hG4 hgn
          clear hgn hG4
          refine wpAny_ready (rs := [14]) (by kernel_rfl) (by simp) ?_
          refine (AllReady.cons rfl (fun K hK => ?_) AllReady.nil)
          go_simp
          go_wp2_with (go_at_call 51; refine Calls.mono (P := Try.prog) (mulI_c w5 pd 0 bx 2 b2 0 0 xb ya KB (by omega) HB21.out HB02.out HQ.out.2.1 (G.lt hG5 hbx) (G.lt hG5 hby) HQ.out.2.2 (IntIs.G HX2.out hbx hG5) (IntIs.G HY0.out hby hG5)) ?_; intro e w6 hs; obtain ⟨rfl, hG6, hnw, -, hkp⟩ := SetTo.step hG5 HQ.out hs)
          have HP' := hkp pn (xa * yb) HNE.out HP.out
          replace HQ : Hid (NI w w6 pd ((xb : Int) * ya)) := hnw
          replace HP : Hid (NI w w6 pn (xa * yb)) := HP'
          clear HP'
          clear hs hkp hnw hG5
          refine wpAny_ready (rs := [15]) (by kernel_rfl) (by simp) ?_
          refine (AllReady.cons rfl (fun K hK => ?_) AllReady.nil)
          go_simp
          have hpq : (xb : Int) * ya = ((xb * ya : Nat) : Int) := by push_cast; rfl
          rw [hpq] at HQ
          clear hpq
          go_wp2_with (go_at_call 50; refine Calls.mono (P := Try.prog) (setFrac_c w6 bz pn 0 pd 0 s1 s2 (xa * yb) (xb * ya) (2 * KB) (by omega) HN2.out HD2.out HD0.out (G.lt hG6 hbz) HP.out.2.1 HQ.out.2.1 (HZR.out.G hbz hG6) HP.out.2.2 HQ.out.2.2) ?_; intro e w7 hs; obtain ⟨rfl, k1, k2⟩ := NormTo.after hG6 hs)
          have HK2 : Hid _ := k2
          clear hs k2
          refine wpAny_ready (rs := [16]) (by kernel_rfl) (by simp) ?_
          refine (AllReady.cons rfl (fun K hK => ?_) AllReady.nil)
          go_simp
          first | (refine hK _ _ ?_; clear hK K) | skip
          refine wpAny_done (by kernel_rfl) ?_ _
          go_wp2_with fail
          go_ret
          exact ⟨rfl, k1, HK2.out⟩
  · as_aux_lemma =>
      go_simp
      go_wp2_with (go_at_call 52; refine Calls.mono (P := Try.prog) (den_c w0 b2 ya yb hyb0 (HYR.out.G hby hG0)) ?_; rintro e w1 ⟨rfl, hgn⟩)
      have hG1 := G.trans hG0 hgn
      clear hgn hG0
      refine wpAny_ready (rs := [1, 8]) (by kernel_rfl) (by simp) ?_
      refine (AllReady.cons rfl (fun K hK => ?_) (AllReady.cons rfl (fun K hK => ?_) AllReady.nil))
      · as_aux_lemma =>
          go_simp
          refine hK _ _ ?_
          clear hK K
          have hal := (G.refl w1).alloc (.cells #[.bool false, .slice none 0 0] 62)
          have hnw := NI.new hG1 62
          have hG2 := G.trans hG1 hal
          generalize w1.heap.size = pn at *
          generalize w1.alloc (.cells #[.bool false, .slice none 0 0] 62) = w2 at *
          have HP : Hid (NI w w2 pn 0) := hnw
          clear hal hnw hG1
          refine wpAny_ready (rs := [7, 8]) (by kernel_rfl) (by simp) ?_
          refine (AllReady.cons rfl (fun K hK => ?_) (AllReady.cons rfl (fun K hK => ?_) AllReady.nil))
          · as_aux_lemma =>
              go_simp
              go_wp2_with (go_at_call 51; refine Calls.mono (P := Try.prog) (mulI_c w2 pn 0 bx 0 b2 2 0 xa yb KB (by omega) HB01.out HB22.out HP.out.2.1 (G.lt hG2 hbx) (G.lt hG2 hby) HP.out.2.2 (IntIs.G HX0.out hbx hG2) (IntIs.G HY2.out hby hG2)) ?_; intro e w3 hs; obtain ⟨rfl, hG3, hnw, -, hkp⟩ := SetTo.step hG2 HP.out hs)
              replace HP : Hid (NI w w3 pn (xa * yb)) := hnw
              clear hs hkp hnw hG2
              refine wpAny_ready (rs := [8, 10]) (by kernel_rfl) (by simp) ?_
              refine (AllReady.cons rfl (fun K hK => ?_) (AllReady.cons rfl (fun K hK => ?_) AllReady.nil))
              · as_aux_lemma =>
                  go_simp
                  refine hK _ _ ?_
                  clear hK K
                  have hal := (G.refl w3).alloc (.cells #[.bool false, .slice none 0 0] 62)
                  have hnw := NI.new hG3 62
                  have HP' := HP.out.G hal
                  have hne : w3.heap.size ≠ pn := by have := HP.out.2.1; omega
                  have hG4 := G.trans hG3 hal
                  generalize w3.heap.size = pd at *
                  generalize w3.alloc (.cells #[.bool false, .slice none 0 0] 62) = w4 at *
                  have HQ : Hid (NI w w4 pd 0) := hnw
                  replace HP : Hid (NI w w4 pn (xa * yb)) := HP'
                  have HNE : Hid (pn ≠ pd) := hne.symm
                  clear HP' hne
                  clear hal hnw hG3
                  refine wpAny_ready (rs := [10]) (by kernel_rfl) (by simp) ?_
                  refine (AllReady.cons rfl (fun K hK => ?_) AllReady.nil)
                  go_simp
                  go_wp2_with (go_at_call 52; refine Calls.mono (P := Try.prog) (den_c w4 bx xa xb hxb0 (HXR.out.G hbx hG4)) ?_; rintro e w5 ⟨rfl, hgn⟩)
                  have HP' := HP.out.G hgn
                  replace HP : Hid (NI w w5 pn (xa * yb)) := HP'
                  clear HP'
                  have HQ' := HQ.out.G hgn
                  replace HQ : Hid (NI w w5 pd 0) := HQ'
                  clear HQ'
                  have hG5 := G.trans hG4 hgn
                  clear hgn hG4
                  refine wpAny_ready (rs := [14]) (by kernel_rfl) (by simp) ?_
                  refine (AllReady.cons rfl (fun K hK => ?_) AllReady.nil)
                  go_simp
                  go_wp2_with (go_at_call 51; refine Calls.mono (P := Try.prog) (mulI_c w5 pd 0 bx 2 b2 0 0 xb ya KB (by omega) HB21.out HB02.out HQ.out.2.1 (G.lt hG5 hbx) (G.lt hG5 hby) HQ.out.2.2 (IntIs.G HX2.out hbx hG5) (IntIs.G HY0.out hby hG5)) ?_; intro e w6 hs; obtain ⟨rfl, hG6, hnw, -, hkp⟩ := SetTo.step hG5 HQ.out hs)
                  have HP' := hkp pn (xa * yb) HNE.out HP.out
                  replace HQ : Hid (NI w w6 pd ((xb : Int) * ya)) := hnw
                  replace HP : Hid (NI w w6 pn (xa * yb)) := HP'
                  clear HP'
                  clear hs hkp hnw hG5
                  refine wpAny_ready (rs := [15]) (by kernel_rfl) (by simp) ?_
                  refine (AllReady.cons rfl (fun K hK => ?_) AllReady.nil)
                  go_simp
                  have hpq : (xb : Int) * ya = ((xb * ya : Nat) : Int) := by push_cast; rfl
                  rw [hpq] at HQ
                  clear hpq
                  go_wp2_with (go_at_call 50; refine Calls.mono (P := Try.prog) (setFrac_c w6 bz pn 0 pd 0 s1 s2 (xa * yb) (xb * ya) (2 * KB) (by omega) HN2.out HD2.out HD0.out (G.lt hG6 hbz) HP.out.2.1 HQ.out.2.1 (HZR.out.G hbz hG6) HP.out.2.2 HQ.out.2.2) ?_; intro e w7 hs; obtain ⟨rfl, k1, k2⟩ := NormTo.after hG6 hs)
                  have HK2 : Hid _ := k2
                  clear hs k2
                  refine wpAny_ready (rs := [16]) (by kernel_rfl) (by simp) ?_
                  refine (AllReady.cons rfl (fun K hK => ?_) AllReady.nil)
                  go_simp
                  first | (refine hK _ _ ?_; clear hK K) | skip
                  refine wpAny_done (by kernel_rfl) ?_ _
                  go_wp2_with fail
                  go_ret
                  exact ⟨rfl, k1, HK2.out⟩
              · as_aux_lemma =>
                  go_simp
                  go_wp2_with (go_at_call 52; refine Calls.mono (P := Try.prog) (den_c w3 bx xa xb hxb0 (HXR.out.G hbx hG3)) ?_; rintro e w4 ⟨rfl, hgn⟩)
                  have HP' := HP.out.G hgn
                  replace HP : Hid (NI w w4 pn (xa * yb)) := HP'
                  clear HP'
                  have hG4 := G.trans hG3 hgn
                  clear hgn hG3
                  refine wpAny_ready (rs := [8]) (by kernel_rfl) (by simp) ?_
                  refine (AllReady.cons rfl (fun K hK => ?_) AllReady.nil)
                  go_simp
                  refine hK _ _ ?_
                  clear hK K
                  have hal := (G.refl w4).alloc (.cells #[.bool false, .slice none 0 0] 62)
                  have hnw := NI.new hG4 62
                  have HP' := HP.out.G hal
                  have hne : w4.heap.size ≠ pn := by have := HP.out.2.1; omega
                  have hG5 := G.trans hG4 hal
                  generalize w4.heap.size = pd at *
                  generalize w4.alloc (.cells #[.bool false, .slice none 0 0] 62) = w5 at *
                  have HQ : Hid (NI w w5 pd 0) := hnw
                  replace HP : Hid (NI w w5 pn (xa * yb)) := HP'
                  have HNE : Hid (pn ≠ pd) := hne.symm
                  clear HP' hne
                  clear hal hnw hG4
                  refine wpAny_ready (rs := [14]) (by kernel_rfl) (by simp) ?_
                  refine (AllReady.cons rfl (fun K hK => ?_) AllReady.nil)
                  go_simp
                  go_wp2_with (go_at_call 51; refine Calls.mono (P := Try.prog) (mulI_c w5 pd 0 bx 2 b2 0 0 xb ya KB (by omega) HB21.out HB02.out HQ.out.2.1 (G.lt hG5 hbx) (G.lt hG5 hby) HQ.out.2.2 (IntIs.G HX2.out hbx hG5) (IntIs.G HY0.out hby hG5)) ?_; intro e w6 hs; obtain ⟨rfl, hG6, hnw, -, hkp⟩ := SetTo.step hG5 HQ.out hs)
                  have HP' := hkp pn (xa * yb) HNE.out HP.out
                  replace HQ : Hid (NI w w6 pd ((xb : Int) * ya)) := hnw
                  replace HP : Hid (NI w w6 pn (xa * yb)) := HP'
                  clear HP'
                  clear hs hkp hnw hG5
                  refine wpAny_ready (rs := [15]) (by kernel_rfl) (by simp) ?_
                  refine (AllReady.cons rfl (fun K hK => ?_) AllReady.nil)
                  go_simp
                  have hpq : (xb : Int) * ya = ((xb * ya : Nat) : Int) := by push_cast; rfl
                  rw [hpq] at HQ
                  clear hpq
                  go_wp2_with (go_at_call 50; refine Calls.mono (P := Try.prog) (setFrac_c w6 bz pn 0 pd 0 s1 s2 (xa * yb) (xb * ya) (2 * KB) (by omega) HN2.out HD2.out HD0.out (G.lt hG6 hbz) HP.out.2.1 HQ.out.2.1 (HZR.out.G hbz hG6) HP.out.2.2 HQ.out.2.2) ?_; intro e w7 hs; obtain ⟨rfl, k1, k2⟩ := NormTo.after hG6 hs)
                  have HK2 : Hid _ := k2
                  clear hs k2
                  refine wpAny_ready (rs := [16]) (by kernel_rfl) (by simp) ?_
                  refine (AllReady.cons rfl (fun K hK => ?_) AllReady.nil)
                  go_simp
                  first | (refine hK _ _ ?_; clear hK K) | skip
                  refine wpAny_done (by kernel_rfl) ?_ _
                  go_wp2_with fail
                  go_ret
                  exact ⟨rfl, k1, HK2.out⟩
          · as_aux_lemma =>
              go_simp
              refine hK _ _ ?_
              clear hK K
              have hal := (G.refl w2).alloc (.cells #[.bool false, .slice none 0 0] 62)
              have hnw := NI.new hG2 62
              have HP' := HP.out.G hal
              have hne : w2.heap.size ≠ pn := by have := HP.out.2.1; omega
              have hG3 := G.trans hG2 hal
              generalize w2.heap.size = pd at *
              generalize w2.alloc (.cells #[.bool false, .slice none 0 0] 62) = w3 at *
              have HQ : Hid (NI w w3 pd 0) := hnw
              replace HP : Hid (NI w w3 pn 0) := HP'
              have HNE : Hid (pn ≠ pd) := hne.symm
              clear HP' hne
              clear hal hnw hG2
              refine wpAny_ready (rs := [7]) (by kernel_rfl) (by simp) ?_
              refine (AllReady.cons rfl (fun K hK => ?_) AllReady.nil)
              go_simp
              go_wp2_with (go_at_call 51; refine Calls.mono (P := Try.prog) (mulI_c w3 pn 0 bx 0 b2 2 0 xa yb KB (by omega) HB01.out HB22.out HP.out.2.1 (G.lt hG3 hbx) (G.lt hG3 hby) HP.out.2.2 (IntIs.G HX0.out hbx hG3) (IntIs.G HY2.out hby hG3)) ?_; intro e w4 hs; obtain ⟨rfl, hG4, hnw, -, hkp⟩ := SetTo.step hG3 HP.out hs)
              have HQ' := hkp pd 0 HNE.out.symm HQ.out
              replace HP : Hid (NI w w4 pn (xa * yb)) := hnw
              replace HQ : Hid (NI w w4 pd 0) := HQ'
              clear HQ'
              clear hs hkp hnw hG3
              refine wpAny_ready (rs := [10]) (by kernel_rfl) (by simp) ?_
              refine (AllReady.cons rfl (fun K hK => ?_) AllReady.nil)
              go_simp
              go_wp2_with (go_at_call 52; refine Calls.mono (P := Try.prog) (den_c w4 bx xa xb hxb0 (HXR.out.G hbx hG4)) ?_; rintro e w5 ⟨rfl, hgn⟩)
              have HP' := HP.out.G hgn
              replace HP : Hid (NI w w5 pn (xa * yb)) := HP'
              clear HP'
              have HQ' := HQ.out.G hgn
              replace HQ : Hid (NI w w5 pd 0) := HQ'
              clear HQ'
              have hG5 := G.trans hG4 hgn
              clear hgn hG4
              refine wpAny_ready (rs := [14]) (by kernel_rfl) (by simp) ?_
              refine (AllReady.cons rfl (fun K hK => ?_) AllReady.nil)
              go_simp
              go_wp2_with (go_at_call 51; refine Calls.mono (P := Try.prog) (mulI_c w5 pd 0 bx 2 b2 0 0 xb ya KB (by omega) HB21.out HB02.out HQ.out.2.1 (G.lt hG5 hbx) (G.lt hG5 hby) HQ.out.2.2 (IntIs.G HX2.out hbx hG5) (IntIs.G HY0.out hby hG5)) ?_; intro e w6 hs; obtain ⟨rfl, hG6, hnw, -, hkp⟩ := SetTo.step hG5 HQ.out hs)
              have HP' := hkp pn (xa * yb) HNE.out HP.out
              replace HQ : Hid (NI w w6 pd ((xb : Int) * ya)) := hnw
              replace HP : Hid (NI w w6 pn (xa * yb)) := HP'
              clear HP'
              clear hs hkp hnw hG5
              refine wpAny_ready (rs := [15]) (by kernel_rfl) (by simp) ?_
              refine (AllReady.cons rfl (fun K hK => ?_) AllReady.nil)
              go_simp
              have hpq : (xb : Int) * ya = ((xb * ya : Nat) : Int) := by push_cast; rfl
              rw [hpq] at HQ
              clear hpq
              go_wp2_with (go_at_call 50; refine Calls.mono (P := Try.prog) (setFrac_c w6 bz pn 0 pd 0 s1 s2 (xa * yb) (xb * ya) (2 * KB) (by omega) HN2.out HD2.out HD0.out (G.lt hG6 hbz) HP.out.2.1 HQ.out.2.1 (HZR.out.G hbz hG6) HP.out.2.2 HQ.out.2.2) ?_; intro e w7 hs; obtain ⟨rfl, k1, k2⟩ := NormTo.after hG6 hs)
              have HK2 : Hid _ := k2
              clear hs k2
              refine wpAny_ready (rs := [16]) (by kernel_rfl) (by simp) ?_
              refine (AllReady.cons rfl (fun K hK => ?_) AllReady.nil)
              go_simp
              first | (refine hK _ _ ?_; clear hK K) | skip
              refine wpAny_done (by kernel_rfl) ?_ _
              go_wp2_with fail
              go_ret
              exact ⟨rfl, k1, HK2.out⟩
      · as_aux_lemma =>
          go_simp
          refine hK _ _ ?_
          clear hK K
          have hal := (G.refl w1).alloc (.cells #[.bool false, .slice none 0 0] 62)
          have hnw := NI.new hG1 62
          have hG2 := G.trans hG1 hal
          generalize w1.heap.size = pd at *
          generalize w1.alloc (.cells #[.bool false, .slice none 0 0] 62) = w2 at *
          have HQ : Hid (NI w w2 pd 0) := hnw
          clear hal hnw hG1
          refine wpAny_ready (rs := [1]) (by kernel_rfl) (by simp) ?_
          refine (AllReady.cons rfl (fun K hK => ?_) AllReady.nil)
          go_simp
          refine hK _ _ ?_
          clear hK K
          have hal := (G.refl w2).alloc (.cells #[.bool false, .slice none 0 0] 62)
          have hnw := NI.new hG2 62
          have HQ' := HQ.out.G hal
          have hne : w2.heap.size ≠ pd := by have := HQ.out.2.1; omega
          have hG3 := G.trans hG2 hal
          generalize w2.heap.size = pn at *
          generalize w2.alloc (.cells #[.bool false, .slice none 0 0] 62) = w3 at *
          have HP : Hid (NI w w3 pn 0) := hnw
          replace HQ : Hid (NI w w3 pd 0) := HQ'
          have HNE : Hid (pn ≠ pd) := hne
          clear HQ' hne
          clear hal hnw hG2
          refine wpAny_ready (rs := [7]) (by kernel_rfl) (by simp) ?_
          refine (AllReady.cons rfl (fun K hK => ?_) AllReady.nil)
          go_simp
          go_wp2_with (go_at_call 51; refine Calls.mono (P := Try.prog) (mulI_c w3 pn 0 bx 0 b2 2 0 xa yb KB (by omega) HB01.out HB22.out HP.out.2.1 (G.lt hG3 hbx) (G.lt hG3 hby) HP.out.2.2 (IntIs.G HX0.out hbx hG3) (IntIs.G HY2.out hby hG3)) ?_; intro e w4 hs; obtain ⟨rfl, hG4, hnw, -, hkp⟩ := SetTo.step hG3 HP.out hs)
          have HQ' := hkp pd 0 HNE.out.symm HQ.out
          replace HP : Hid (NI w w4 pn (xa * yb)) := hnw
          replace HQ : Hid (NI w w4 pd 0) := HQ'
          clear HQ'
          clear hs hkp hnw hG3
          refine wpAny_ready (rs := [10]) (by kernel_rfl) (by simp) ?_
          refine (AllReady.cons rfl (fun K hK => ?_) AllReady.nil)
          go_simp
          go_wp2_with (go_at_call 52; refine Calls.mono (P := Try.prog) (den_c w4 bx xa xb hxb0 (HXR.out.G hbx hG4)) ?_; rintro e w5 ⟨rfl, hgn⟩)
          have HQ' := HQ.out.G hgn
          replace HQ : Hid (NI w w5 pd 0) := HQ'
          clear HQ'
          have HP' := HP.out.G hgn
          replace HP : Hid (NI w w5 pn (xa * yb)) := HP'
          clear HP'
          have hG5 := G.trans hG4 hgn
          clear hgn hG4
          refine wpAny_ready (rs := [14]) (by kernel_rfl) (by simp) ?_
          refine (AllReady.cons rfl (fun K hK => ?_) AllReady.nil)
          go_simp
          go_wp2_with (go_at_call 51; refine Calls.mono (P := Try.prog) (mulI_c w5 pd 0 bx 2 b2 0 0 xb ya KB (by omega) HB21.out HB02.out HQ.out.2.1 (G.lt hG5 hbx) (G.lt hG5 hby) HQ.out.2.2 (IntIs.G HX2.out hbx hG5) (IntIs.G HY0.out hby hG5)) ?_; intro e w6 hs; obtain ⟨rfl, hG6, hnw, -, hkp⟩ := SetTo.step hG5 HQ.out hs)
          have HP' := hkp pn (xa * yb) HNE.out HP.out
          replace HQ : Hid (NI w w6 pd ((xb : Int) * ya)) := hnw
          replace HP : Hid (NI w w6 pn (xa * yb)) := HP'
          clear HP'
          clear hs hkp hnw hG5
          refine wpAny_ready (rs := [15]) (by kernel_rfl) (by simp) ?_
          refine (AllReady.cons rfl (fun K hK => ?_) AllReady.nil)
          go_simp
          have hpq : (xb : Int) * ya = ((xb * ya : Nat) : Int) := by push_cast; rfl
          rw [hpq] at HQ
          clear hpq
          go_wp2_with (go_at_call 50; refine Calls.mono (P := Try.prog) (setFrac_c w6 bz pn 0 pd 0 s1 s2 (xa * yb) (xb * ya) (2 * KB) (by omega) HN2.out HD2.out HD0.out (G.lt hG6 hbz) HP.out.2.1 HQ.out.2.1 (HZR.out.G hbz hG6) HP.out.2.2 HQ.out.2.2) ?_; intro e w7 hs; obtain ⟨rfl, k1, k2⟩ := NormTo.after hG6 hs)
          have HK2 : Hid _ := k2
          clear hs k2
          refine wpAny_ready (rs := [16]) (by kernel_rfl) (by simp) ?_
          refine (AllReady.cons rfl (fun K hK => ?_) AllReady.nil)
          go_simp
          first | (refine hK _ _ ?_; clear hK K) | skip
          refine wpAny_done (by kernel_rfl) ?_ _
          go_wp2_with fail
          go_ret
          exact ⟨rfl, k1, HK2.out⟩
  · as_aux_lemma =>
      go_simp
      refine hK _ _ ?_
      clear hK K
      have hal := (G.refl w0).alloc (.cells #[.bool false, .slice none 0 0] 62)
      have hnw := NI.new hG0 62
      have hG1 := G.trans hG0 hal
      generalize w0.heap.size = pd at *
      generalize w0.alloc (.cells #[.bool false, .slice none 0 0] 62) = w1 at *
      have HQ : Hid (NI w w1 pd 0) := hnw
      clear hal hnw hG0
      refine wpAny_ready (rs := [1, 6]) (by kernel_rfl) (by simp) ?_
      refine (AllReady.cons rfl (fun K hK => ?_) (AllReady.cons rfl (fun K hK => ?_) AllReady.nil))
      · as_aux_lemma =>
          go_simp
          refine hK _ _ ?_
          clear hK K
          have hal := (G.refl w1).alloc (.cells #[.bool false, .slice none 0 0] 62)
          have hnw := NI.new hG1 62
          have HQ' := HQ.out.G hal
          have hne : w1.heap.size ≠ pd := by have := HQ.out.2.1; omega
          have hG2 := G.trans hG1 hal
          generalize w1.heap.size = pn at *
          generalize w1.alloc (.cells #[.bool false, .slice none 0 0] 62) = w2 at *
          have HP : Hid (NI w w2 pn 0) := hnw
          replace HQ : Hid (NI w w2 pd 0) := HQ'
          have HNE : Hid (pn ≠ pd) := hne
          clear HQ' hne
          clear hal hnw hG1
          refine wpAny_ready (rs := [6]) (by kernel_rfl) (by simp) ?_
          refine (AllReady.cons rfl (fun K hK => ?_) AllReady.nil)
          go_simp
          go_wp2_with (go_at_call 52; refine Calls.mono (P := Try.prog) (den_c w2 b2 ya yb hyb0 (HYR.out.G hby hG2)) ?_; rintro e w3 ⟨rfl, hgn⟩)
          have HQ' := HQ.out.G hgn
          replace HQ : Hid (NI w w3 pd 0) := HQ'
          clear HQ'
          have HP' := HP.out.G hgn
          replace HP : Hid (NI w w3 pn 0) := HP'
          clear HP'
          have hG3 := G.trans hG2 hgn
          clear hgn hG2
          refine wpAny_ready (rs := [7]) (by kernel_rfl) (by simp) ?_
          refine (AllReady.cons rfl (fun K hK => ?_) AllReady.nil)
          go_simp
          go_wp2_with (go_at_call 51; refine Calls.mono (P := Try.prog) (mulI_c w3 pn 0 bx 0 b2 2 0 xa yb KB (by omega) HB01.out HB22.out HP.out.2.1 (G.lt hG3 hbx) (G.lt hG3 hby) HP.out.2.2 (IntIs.G HX0.out hbx hG3) (IntIs.G HY2.out hby hG3)) ?_; intro e w4 hs; obtain ⟨rfl, hG4, hnw, -, hkp⟩ := SetTo.step hG3 HP.out hs)
          have HQ' := hkp pd 0 HNE.out.symm HQ.out
          replace HP : Hid (NI w w4 pn (xa * yb)) := hnw
          replace HQ : Hid (NI w w4 pd 0) := HQ'
          clear HQ'
          clear hs hkp hnw hG3
          refine wpAny_ready (rs := [10]) (by kernel_rfl) (by simp) ?_
          refine (AllReady.cons rfl (fun K hK => ?_) AllReady.nil)
          go_simp
          go_wp2_with (go_at_call 52; refine Calls.mono (P := Try.prog) (den_c w4 bx xa xb hxb0 (HXR.out.G hbx hG4)) ?_; rintro e w5 ⟨rfl, hgn⟩)
          have HQ' := HQ.out.G hgn
          replace HQ : Hid (NI w w5 pd 0) := HQ'
          clear HQ'
          have HP' := HP.out.G hgn
          replace HP : Hid (NI w w5 pn (xa * yb)) := HP'
          clear HP'
          have hG5 := G.trans hG4 hgn
          clear hgn hG4
          refine wpAny_ready (rs := [14]) (by kernel_rfl) (by simp) ?_
          refine (AllReady.cons rfl (fun K hK => ?_) AllReady.nil)
          go_simp
          go_wp2_with (go_at_call 51; refine Calls.mono (P := Try.prog) (mulI_c w5 pd 0 bx 2 b2 0 0 xb ya KB (by omega) HB21.out HB02.out HQ.out.2.1 (G.lt hG5 hbx) (G.lt hG5 hby) HQ.out.2.2 (IntIs.G HX2.out hbx hG5) (IntIs.G HY0.out hby hG5)) ?_; intro e w6 hs; obtain ⟨rfl, hG6, hnw, -, hkp⟩ := SetTo.step hG5 HQ.out hs)
          have HP' := hkp pn (xa * yb) HNE.out HP.out
          replace HQ : Hid (NI w w6 pd ((xb : Int) * ya)) := hnw
          replace HP : Hid (NI w w6 pn (xa * yb)) := HP'
          clear HP'
          clear hs hkp hnw hG5
          refine wpAny_ready (rs := [15]) (by kernel_rfl) (by simp) ?_
          refine (AllReady.cons rfl (fun K hK => ?_) AllReady.nil)
          go_simp
          have hpq : (xb : Int) * ya = ((xb * ya : Nat) : Int) := by push_cast; rfl
          rw [hpq] at HQ
          clear hpq
          go_wp2_with (go_at_call 50; refine Calls.mono (P := Try.prog) (setFrac_c w6 bz pn 0 pd 0 s1 s2 (xa * yb) (xb * ya) (2 * KB) (by omega) HN2.out HD2.out HD0.out (G.lt hG6 hbz) HP.out.2.1 HQ.out.2.1 (HZR.out.G hbz hG6) HP.out.2.2 HQ.out.2.2) ?_; intro e w7 hs; obtain ⟨rfl, k1, k2⟩ := NormTo.after hG6 hs)
          have HK2 : Hid _ := k2
          clear hs k2
          refine wpAny_ready (rs := [16]) (by kernel_rfl) (by simp) ?_
          refine (AllReady.cons rfl (fun K hK => ?_) AllReady.nil)
          go_simp
          first | (refine hK _ _ ?_; clear hK K) | skip
          refine wpAny_done (by kernel_rfl) ?_ _
          go_wp2_with fail
          go_ret
          exact ⟨rfl, k1, HK2.out⟩
      · as_aux_lemma =>
          go_simp
          go_wp2_with (go_at_call 52; refine Calls.mono (P := Try.prog) (den_c w1 b2 ya yb hyb0 (HYR.out.G hby hG1)) ?_; rintro e w2 ⟨rfl, hgn⟩)
          have HQ' := HQ.out.G hgn
          replace HQ : Hid (NI w w2 pd 0) := HQ'
          clear HQ'
          have hG2 := G.trans hG1 hgn
          clear hgn hG1
          refine wpAny_ready (rs := [1]) (by kernel_rfl) (by simp) ?_
          refine (AllReady.cons rfl (fun K hK => ?_) AllReady.nil)
          go_simp
          refine hK _ _ ?_
          clear hK K
          have hal := (G.refl w2).alloc (.cells #[.bool false, .slice none 0 0] 62)
          have hnw := NI.new hG2 62
          have HQ' := HQ.out.G hal
          have hne : w2.heap.size ≠ pd := by have := HQ.out.2.1; omega
          have hG3 := G.trans hG2 hal
          generalize w2.heap.size = pn at *
          generalize w2.alloc (.cells #[.bool false, .slice none 0 0] 62) = w3 at *
          have HP : Hid (NI w w3 pn 0) := hnw
          replace HQ : Hid (NI w w3 pd 0) := HQ'
          have HNE : Hid (pn ≠ pd) := hne
          clear HQ' hne
          clear hal hnw hG2
          refine wpAny_ready (rs := [7]) (by kernel_rfl) (by simp) ?_
          refine (AllReady.cons rfl (fun K hK => ?_) AllReady.nil)
          go_simp
          go_wp2_with (go_at_call 51; refine Calls.mono (P := Try.prog) (mulI_c w3 pn 0 bx 0 b2 2 0 xa yb KB (by omega) HB01.out HB22.out HP.out.2.1 (G.lt hG3 hbx) (G.lt hG3 hby) HP.out.2.2 (IntIs.G HX0.out hbx hG3) (IntIs.G HY2.out hby hG3)) ?_; intro e w4 hs; obtain ⟨rfl, hG4, hnw, -, hkp⟩ := SetTo.step hG3 HP.out hs)
          have HQ' := hkp pd 0 HNE.out.symm HQ.out
          replace HP : Hid (NI w w4 pn (xa * yb)) := hnw
          replace HQ : Hid (NI w w4 pd 0) := HQ'
          clear HQ'
          clear hs hkp hnw hG3
          refine wpAny_ready (rs := [10]) (by kernel_rfl) (by simp) ?_
          refine (AllReady.cons rfl (fun K hK => ?_) AllReady.nil)
          go_simp
          go_wp2_with (go_at_call 52; refine Calls.mono (P := Try.prog) (den_c w4 bx xa xb hxb0 (HXR.out.G hbx hG4)) ?_; rintro e w5 ⟨rfl, hgn⟩)
          have HQ' := HQ.out.G hgn
          replace HQ : Hid (NI w w5 pd 0) := HQ'
          clear HQ'
          have HP' := HP.out.G hgn
          replace HP : Hid (NI w w5 pn (xa * yb)) := HP'
          clear HP'
          have hG5 := G.trans hG4 hgn
          clear hgn hG4
          refine wpAny_ready (rs := [14]) (by kernel_rfl) (by simp) ?_
          refine (AllReady.cons rfl (fun K hK => ?_) AllReady.nil)
          go_simp
          go_wp2_with (go_at_call 51; refine Calls.mono (P := Try.prog) (mulI_c w5 pd 0 bx 2 b2 0 0 xb ya KB (by omega) HB21.out HB02.out HQ.out.2.1 (G.lt hG5 hbx) (G.lt hG5 hby) HQ.out.2.2 (IntIs.G HX2.out hbx hG5) (IntIs.G HY0.out hby hG5)) ?_; intro e w6 hs; obtain ⟨rfl, hG6, hnw, -, hkp⟩ := SetTo.step hG5 HQ.out hs)
          have HP' := hkp pn (xa * yb) HNE.out HP.out
          replace HQ : Hid (NI w w6 pd ((xb : Int) * ya)) := hnw
          replace HP : Hid (NI w w6 pn (xa * yb)) := HP'
          clear HP'
          clear hs hkp hnw hG5
          refine wpAny_ready (rs := [15]) (by kernel_rfl) (by simp) ?_
          refine (AllReady.cons rfl (fun K hK => ?_) AllReady.nil)
          go_simp
          have hpq : (xb : Int) * ya = ((xb * ya : Nat) : Int) := by push_cast; rfl
          rw [hpq] at HQ
          clear hpq
          go_wp2_with (go_at_call 50; refine Calls.mono (P := Try.prog) (setFrac_c w6 bz pn 0 pd 0 s1 s2 (xa * yb) (xb * ya) (2 * KB) (by omega) HN2.out HD2.out HD0.out (G.lt hG6 hbz) HP.out.2.1 HQ.out.2.1 (HZR.out.G hbz hG6) HP.out.2.2 HQ.out.2.2) ?_; intro e w7 hs; obtain ⟨rfl, k1, k2⟩ := NormTo.after hG6 hs)
          have HK2 : Hid _ := k2
          clear hs k2
          refine wpAny_ready (rs := [16]) (by kernel_rfl) (by simp) ?_
          refine (AllReady.cons rfl (fun K hK => ?_) AllReady.nil)
          go_simp
          first | (refine hK _ _ ?_; clear hK K) | skip
          refine wpAny_done (by kernel_rfl) ?_ _
          go_wp2_with fail
          go_ret
          exact ⟨rfl, k1, HK2.out⟩

end Go.Proofs.Ytkimdkgijfknlaa
