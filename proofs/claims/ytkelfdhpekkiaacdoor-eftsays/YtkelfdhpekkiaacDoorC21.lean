/- What is proved here: contracts of the reference: powers of two as ratios, over this seat's translation.
What is proved here: contracts of the reference's ratios: Add of Rat, over this seat's translation. -/
import Derived.Test.YtkelfdhpekkiaacDoorC20
import Derived.Test.YtkelfdhpekkiaacDoorC13
namespace Go.Proofs.YtkelfdhpekkiaacDoor
open Go.ChangeShapes Go.WideShapes Go.ChangeAt Go.RowKit
open BN

/-- A call hands back a new Rat; nothing that was there has turned. -/
def RetR (w : World) (sa : Int) (sb : Nat) (e : Ending) (w' : World) : Prop := ∃ p, e = .returned (.pointer (some ⟨p, 0, none⟩)) ∧ G w w' ∧ w.heap.size ≤ p ∧ p < w'.heap.size ∧ RatIs w' p sa (sb : Int)
theorem NormTo.ret {w0 w : World} {b : Nat} {sa : Int} {sb : Nat} {e : Ending} {w' : World} (g : G w0 w) (hb : w0.heap.size ≤ b) (hs : b < w.heap.size) (h : NormTo w b sa sb e w') : RetR w0 sa sb e w' :=
  ⟨b, h.1, GX.fresh g h.2.1 hb, hb, Nat.lt_of_lt_of_le hs h.2.1.size, h.2.2⟩

end Go.Proofs.YtkelfdhpekkiaacDoor
namespace Go.Proofs.YtkelfdhpekkiaacDoor
open Go.ChangeShapes Go.WideShapes Go.ChangeAt Go.RowKit
open BN

set_option maxRecDepth 10000 in
set_option maxHeartbeats 8000000 in
theorem addR_c (w : World) (bz bx b2 : Nat) (s1 s2 xa ya : Int) (xb yb : Nat) (KB : Nat) (hK : KB ≤ 100000) (hx2 : xa.natAbs < 2 ^ (32 * KB)) (hy2 : ya.natAbs < 2 ^ (32 * KB)) (hxb2 : xb < 2 ^ (32 * KB)) (hyb2 : yb < 2 ^ (32 * KB)) (hxb : 0 < xb) (hyb : 0 < yb)
    (hbz : bz < w.heap.size) (hbx : bx < w.heap.size) (hby : b2 < w.heap.size) (hz : RatIs w bz s1 s2) (hx : RatIs w bx xa xb) (hy : RatIs w b2 ya yb) :
    Calls Tryd.prog 10 #[.pointer (some ⟨bz, 0, none⟩), .pointer (some ⟨bx, 0, none⟩), .pointer (some ⟨b2, 0, none⟩)] w (NormTo w bz (Int.tdiv (xa * (yb : Int) + ya * (xb : Int)) (Nat.gcd (xa * (yb : Int) + ya * (xb : Int)).natAbs (xb * yb) : Nat)) (xb * yb / Nat.gcd (xa * (yb : Int) + ya * (xb : Int)).natAbs (xb * yb))) := by
  have HB01 : Hid (xa.natAbs < 2 ^ (32 * KB)) := hx2
  have HB02 : Hid (ya.natAbs < 2 ^ (32 * KB)) := hy2
  have HB21 : Hid ((xb : Int).natAbs < 2 ^ (32 * KB)) := by show (xb : Int).natAbs < 2 ^ (32 * KB); rw [Int.natAbs_natCast]; exact hxb2
  have HB22 : Hid ((yb : Int).natAbs < 2 ^ (32 * KB)) := by show (yb : Int).natAbs < 2 ^ (32 * KB); rw [Int.natAbs_natCast]; exact hyb2
  have HX0 : Hid (IntIs w bx 0 xa) := hx.1
  have HY0 : Hid (IntIs w b2 0 ya) := hy.1
  have HX2 : Hid (IntIs w bx 2 xb) := hx.2
  have HY2 : Hid (IntIs w b2 2 yb) := hy.2
  have HXR : Hid (RatIs w bx xa xb) := hx
  have HYR : Hid (RatIs w b2 ya yb) := hy
  have HZR : Hid (RatIs w bz s1 s2) := hz
  have hxb0 : (xb : Int) ≠ 0 := by omega
  have hyb0 : (yb : Int) ≠ 0 := by omega
  have h2k : 32 * (2 * KB) = 32 * KB + 32 * KB := by omega
  have hn1 : (xa * (yb : Int)).natAbs < 2 ^ (32 * (2 * KB)) := by
    rw [Int.natAbs_mul, Int.natAbs_natCast, h2k, Nat.pow_add]
    exact Nat.mul_lt_mul'' hx2 hyb2
  have hn2 : (ya * (xb : Int)).natAbs < 2 ^ (32 * (2 * KB)) := by
    rw [Int.natAbs_mul, Int.natAbs_natCast, h2k, Nat.pow_add]
    exact Nat.mul_lt_mul'' hy2 hxb2
  have hd2 : xb * yb < 2 ^ (32 * (2 * KB)) := by
    rw [h2k, Nat.pow_add]
    exact Nat.mul_lt_mul'' hxb2 hyb2
  have hup : 2 ^ (32 * (2 * KB)) * 2 ≤ 2 ^ (32 * (2 * KB + 1)) := by rw [← Nat.pow_succ]; exact Nat.pow_le_pow_right (by omega) (by omega)
  have HN1 : Hid ((xa * (yb : Int)).natAbs < 2 ^ (32 * (2 * KB))) := hn1
  have HN2 : Hid ((ya * (xb : Int)).natAbs < 2 ^ (32 * (2 * KB))) := hn2
  have HNS : Hid ((xa * (yb : Int) + ya * (xb : Int)).natAbs < 2 ^ (32 * (2 * KB + 1))) := by
    show (xa * (yb : Int) + ya * (xb : Int)).natAbs < 2 ^ (32 * (2 * KB + 1))
    have := Int.natAbs_add_le (xa * (yb : Int)) (ya * (xb : Int))
    omega
  have HD2 : Hid (xb * yb < 2 ^ (32 * (2 * KB + 1))) := by show xb * yb < 2 ^ (32 * (2 * KB + 1)); omega
  have HD0 : Hid (0 < xb * yb) := Nat.mul_pos hxb hyb
  clear hx hy hz hx2 hy2 hxb2 hyb2 hxb hyb h2k hn1 hn2 hd2 hup
  go_enter Tryd.func10, Tryd.ntmps10
  go_wp2_with fail
  apply share
  · intro LX
    refine region_J 15 (G w) (by kernel_rfl) (by first | exact (G.refl _).drew | exact G.drew (by assumption)) ?_
    intro hSh
    refine wpAnyJ_take (i := 2) (v := ?_) rfl (by kernel_rfl) (by kernel_rfl) (by kernel_rfl) (by kernel_rfl) (by kernel_rfl) (by kernel_rfl) (by kernel_rfl) (fun _ _ _ h => h) (Or.inl ⟨by rfl, ?_⟩) (by assumption) ?_
    rotate_left
    · intro wq hwq
      first | (go_simp; done) | (go_simp; with_reducible rfl)
    try simp only [Act.put, List.setIfInBounds_toArray, List.set_cons_zero, List.set_cons_succ]
    refine wpAnyJ_take (i := 3) (v := ?_) rfl (by kernel_rfl) (by kernel_rfl) (by kernel_rfl) (by kernel_rfl) (by kernel_rfl) (by kernel_rfl) (by kernel_rfl) (fun _ _ _ h => h) (Or.inl ⟨by rfl, ?_⟩) (by assumption) ?_
    rotate_left
    · intro wq hwq
      first | (go_simp; done) | (go_simp; with_reducible rfl)
    try simp only [Act.put, List.setIfInBounds_toArray, List.set_cons_zero, List.set_cons_succ]
    refine wpAnyJ_take (i := 4) (v := ?_) rfl (by kernel_rfl) (by kernel_rfl) (by kernel_rfl) (by kernel_rfl) (by kernel_rfl) (by kernel_rfl) (by kernel_rfl) (fun _ _ _ h => h) (Or.inl ⟨by rfl, ?_⟩) (by assumption) ?_
    rotate_left
    · intro wq hwq
      first | (go_simp; done) | (go_simp; with_reducible rfl)
    try simp only [Act.put, List.setIfInBounds_toArray, List.set_cons_zero, List.set_cons_succ]
    refine wpAnyJ_take (i := 5) (v := ?_) rfl (by kernel_rfl) (by kernel_rfl) (by kernel_rfl) (by kernel_rfl) (by kernel_rfl) (by kernel_rfl) (by kernel_rfl) (fun _ _ _ h => h) (Or.inl ⟨by rfl, ?_⟩) (by assumption) ?_
    rotate_left
    · intro wq hwq
      first | (go_simp; done) | (go_simp; with_reducible rfl)
    try simp only [Act.put, List.setIfInBounds_toArray, List.set_cons_zero, List.set_cons_succ]
    refine wpAnyJ_take (i := 9) (v := ?_) rfl (by kernel_rfl) (by kernel_rfl) (by kernel_rfl) (by kernel_rfl) (by kernel_rfl) (by kernel_rfl) (by kernel_rfl) (fun _ _ _ h => h) (Or.inl ⟨by rfl, ?_⟩) (by assumption) ?_
    rotate_left
    · intro wq hwq
      first | (go_simp; done) | (go_simp; with_reducible rfl)
    try simp only [Act.put, List.setIfInBounds_toArray, List.set_cons_zero, List.set_cons_succ]
    refine wpAnyJ_take (i := 10) (v := ?_) rfl (by kernel_rfl) (by kernel_rfl) (by kernel_rfl) (by kernel_rfl) (by kernel_rfl) (by kernel_rfl) (by kernel_rfl) (fun _ _ _ h => h) (Or.inl ⟨by rfl, ?_⟩) (by assumption) ?_
    rotate_left
    · intro wq hwq
      first | (go_simp; done) | (go_simp; with_reducible rfl)
    try simp only [Act.put, List.setIfInBounds_toArray, List.set_cons_zero, List.set_cons_succ]
    refine wpAnyJ_take (i := 11) (v := ?_) rfl (by kernel_rfl) (by kernel_rfl) (by kernel_rfl) (by kernel_rfl) (by kernel_rfl) (by kernel_rfl) (by kernel_rfl) (fun _ _ _ h => h) (Or.inl ⟨by rfl, ?_⟩) (by assumption) ?_
    rotate_left
    · intro wq hwq
      first | (go_simp; done) | (go_simp; with_reducible rfl)
    try simp only [Act.put, List.setIfInBounds_toArray, List.set_cons_zero, List.set_cons_succ]
    refine wpAnyJ_take (i := 12) (v := ?_) rfl (by kernel_rfl) (by kernel_rfl) (by kernel_rfl) (by kernel_rfl) (by kernel_rfl) (by kernel_rfl) (by kernel_rfl) (fun _ _ _ h => h) (Or.inl ⟨by rfl, ?_⟩) (by assumption) ?_
    rotate_left
    · intro wq hwq
      first | (go_simp; done) | (go_simp; with_reducible rfl)
    try simp only [Act.put, List.setIfInBounds_toArray, List.set_cons_zero, List.set_cons_succ]
    show wpAnyJ _ _ _ _ _ _ _ _ _ w.drew
    have hS5 := hSh
    generalize w.drew = w5 at *
    clear hSh
    apply share
    · intro LSabcdemn
      apply share
      · intro LSabcdem
        apply share
        · intro LSabcdm
          apply share
          · intro LSabdem
            apply share
            · intro LSbcdem
              apply share
              · intro LSabcd
                apply share
                · intro LSabdm
                  apply share
                  · intro LSbcdm
                    apply share
                    · intro LSabc
                      apply share
                      · intro LSabd
                        apply share
                        · intro LSacd
                          apply share
                          · intro LSbcd
                            apply share
                            · intro LSab
                              apply share
                              · intro LSac
                                apply share
                                · intro LSad
                                  apply share
                                  · intro LSbc
                                    apply share
                                    · intro LSbd
                                      apply share
                                      · intro LScd
                                        refine wpAnyJ_four (i := 0) (j := 1) (l := 6) (m := 8) (by kernel_rfl) rfl rfl rfl rfl ?_ ?_ ?_ ?_
                                        · skip
                                          intro K hK
                                          go_simp
                                          refine hK.out _ _ (Or.inr (hS5.alloc _)) ?_
                                          clear hK K
                                          have hn := NI.new hS5 31
                                          have hal := (G.refl w5).alloc (.cells #[.bool false, .slice none 0 0] 31)
                                          have hS6 := G.trans hS5 hal
                                          generalize w5.heap.size = p0 at *
                                          generalize w5.alloc (.cells #[.bool false, .slice none 0 0] 31) = w6 at *
                                          have HA6 : Hid (NI w w6 p0 0) := hn
                                          clear hn hal
                                          refine wpAnyJ_three (i := 1) (j := 6) (l := 8) (by kernel_rfl) rfl rfl rfl ?_ ?_ ?_
                                          · skip
                                            intro K hK
                                            go_simp
                                            refine hK.out _ _ (Or.inr (hS6.alloc _)) ?_
                                            clear hK K
                                            have hn := NI.new hS6 31
                                            have hal := (G.refl w6).alloc (.cells #[.bool false, .slice none 0 0] 31)
                                            have hS7 := G.trans hS6 hal
                                            have HAt := HA6.out.G hal
                                            have hneHA : w6.heap.size ≠ p0 := by have := HA6.out.2.1; omega
                                            generalize w6.heap.size = p1 at *
                                            generalize w6.alloc (.cells #[.bool false, .slice none 0 0] 31) = w7 at *
                                            have HB7 : Hid (NI w w7 p1 0) := hn
                                            have HA7 : Hid (NI w w7 p0 0) := HAt
                                            have HNEHBHA : Hid (p0 ≠ p1) := hneHA.symm
                                            have HNEHAHB : Hid (p1 ≠ p0) := hneHA
                                            clear hn hal hS6 HA6 HAt hneHA
                                            refine wpAnyJ_listed (l' := #[true, true, true, true, true, true, false, false, false, true, true, true, true, false, false, false, false]) (by kernel_rfl) ?_
                                            revert HNEHAHB
                                            revert HNEHBHA
                                            revert HB7
                                            revert HA7
                                            revert hS7
                                            revert p1
                                            revert p0
                                            revert w7
                                            exact LSab.out
                                          · skip
                                            intro K hK
                                            go_simp
                                            go_wp2_with (go_at_call 32; refine Calls.mono (P := Tryd.prog) (den_c w6 b2 ya yb hyb0 (HYR.out.G hby hS6)) ?_; rintro e w7 ⟨rfl, hg⟩)
                                            refine hK.out _ _ (Or.inr (G.trans hS6 hg)) ?_
                                            clear hK K
                                            have hS7 := G.trans hS6 hg
                                            have HA7 : Hid (NI w w7 p0 0) := HA6.out.G hg
                                            clear hg hS6 HA6
                                            refine wpAnyJ_listed (l' := #[true, false, true, true, true, true, true, false, false, true, true, true, true, false, false, false, false]) (by kernel_rfl) ?_
                                            revert HA7
                                            revert hS7
                                            revert p0
                                            revert w7
                                            exact LSad.out
                                          · skip
                                            intro K hK
                                            go_simp
                                            refine hK.out _ _ (Or.inr (hS6.alloc _)) ?_
                                            clear hK K
                                            have hn := NI.new hS6 31
                                            have hal := (G.refl w6).alloc (.cells #[.bool false, .slice none 0 0] 31)
                                            have hS7 := G.trans hS6 hal
                                            have HAt := HA6.out.G hal
                                            have hneHA : w6.heap.size ≠ p0 := by have := HA6.out.2.1; omega
                                            generalize w6.heap.size = p2 at *
                                            generalize w6.alloc (.cells #[.bool false, .slice none 0 0] 31) = w7 at *
                                            have HC7 : Hid (NI w w7 p2 0) := hn
                                            have HA7 : Hid (NI w w7 p0 0) := HAt
                                            have HNEHCHA : Hid (p0 ≠ p2) := hneHA.symm
                                            have HNEHAHC : Hid (p2 ≠ p0) := hneHA
                                            clear hn hal hS6 HA6 HAt hneHA
                                            refine wpAnyJ_listed (l' := #[true, false, true, true, true, true, false, false, true, true, true, true, true, false, false, false, false]) (by kernel_rfl) ?_
                                            revert HNEHAHC
                                            revert HNEHCHA
                                            revert HC7
                                            revert HA7
                                            revert hS7
                                            revert p2
                                            revert p0
                                            revert w7
                                            exact LSac.out
                                        · skip
                                          intro K hK
                                          go_simp
                                          refine hK.out _ _ (Or.inr (hS5.alloc _)) ?_
                                          clear hK K
                                          have hn := NI.new hS5 31
                                          have hal := (G.refl w5).alloc (.cells #[.bool false, .slice none 0 0] 31)
                                          have hS6 := G.trans hS5 hal
                                          generalize w5.heap.size = p1 at *
                                          generalize w5.alloc (.cells #[.bool false, .slice none 0 0] 31) = w6 at *
                                          have HB6 : Hid (NI w w6 p1 0) := hn
                                          clear hn hal
                                          refine wpAnyJ_three (i := 0) (j := 6) (l := 8) (by kernel_rfl) rfl rfl rfl ?_ ?_ ?_
                                          · skip
                                            intro K hK
                                            go_simp
                                            refine hK.out _ _ (Or.inr (hS6.alloc _)) ?_
                                            clear hK K
                                            have hn := NI.new hS6 31
                                            have hal := (G.refl w6).alloc (.cells #[.bool false, .slice none 0 0] 31)
                                            have hS7 := G.trans hS6 hal
                                            have HBt := HB6.out.G hal
                                            have hneHB : w6.heap.size ≠ p1 := by have := HB6.out.2.1; omega
                                            generalize w6.heap.size = p0 at *
                                            generalize w6.alloc (.cells #[.bool false, .slice none 0 0] 31) = w7 at *
                                            have HA7 : Hid (NI w w7 p0 0) := hn
                                            have HB7 : Hid (NI w w7 p1 0) := HBt
                                            have HNEHAHB : Hid (p1 ≠ p0) := hneHB.symm
                                            have HNEHBHA : Hid (p0 ≠ p1) := hneHB
                                            clear hn hal hS6 HB6 HBt hneHB
                                            refine wpAnyJ_listed (l' := #[true, true, true, true, true, true, false, false, false, true, true, true, true, false, false, false, false]) (by kernel_rfl) ?_
                                            revert HNEHAHB
                                            revert HNEHBHA
                                            revert HB7
                                            revert HA7
                                            revert hS7
                                            revert p1
                                            revert p0
                                            revert w7
                                            exact LSab.out
                                          · skip
                                            intro K hK
                                            go_simp
                                            go_wp2_with (go_at_call 32; refine Calls.mono (P := Tryd.prog) (den_c w6 b2 ya yb hyb0 (HYR.out.G hby hS6)) ?_; rintro e w7 ⟨rfl, hg⟩)
                                            refine hK.out _ _ (Or.inr (G.trans hS6 hg)) ?_
                                            clear hK K
                                            have hS7 := G.trans hS6 hg
                                            have HB7 : Hid (NI w w7 p1 0) := HB6.out.G hg
                                            clear hg hS6 HB6
                                            refine wpAnyJ_listed (l' := #[false, true, true, true, true, true, true, false, false, true, true, true, true, false, false, false, false]) (by kernel_rfl) ?_
                                            revert HB7
                                            revert hS7
                                            revert p1
                                            revert w7
                                            exact LSbd.out
                                          · skip
                                            intro K hK
                                            go_simp
                                            refine hK.out _ _ (Or.inr (hS6.alloc _)) ?_
                                            clear hK K
                                            have hn := NI.new hS6 31
                                            have hal := (G.refl w6).alloc (.cells #[.bool false, .slice none 0 0] 31)
                                            have hS7 := G.trans hS6 hal
                                            have HBt := HB6.out.G hal
                                            have hneHB : w6.heap.size ≠ p1 := by have := HB6.out.2.1; omega
                                            generalize w6.heap.size = p2 at *
                                            generalize w6.alloc (.cells #[.bool false, .slice none 0 0] 31) = w7 at *
                                            have HC7 : Hid (NI w w7 p2 0) := hn
                                            have HB7 : Hid (NI w w7 p1 0) := HBt
                                            have HNEHCHB : Hid (p1 ≠ p2) := hneHB.symm
                                            have HNEHBHC : Hid (p2 ≠ p1) := hneHB
                                            clear hn hal hS6 HB6 HBt hneHB
                                            refine wpAnyJ_listed (l' := #[false, true, true, true, true, true, false, false, true, true, true, true, true, false, false, false, false]) (by kernel_rfl) ?_
                                            revert HNEHCHB
                                            revert HNEHBHC
                                            revert HC7
                                            revert HB7
                                            revert hS7
                                            revert p2
                                            revert p1
                                            revert w7
                                            exact LSbc.out
                                        · skip
                                          intro K hK
                                          go_simp
                                          go_wp2_with (go_at_call 32; refine Calls.mono (P := Tryd.prog) (den_c w5 b2 ya yb hyb0 (HYR.out.G hby hS5)) ?_; rintro e w6 ⟨rfl, hg⟩)
                                          refine hK.out _ _ (Or.inr (G.trans hS5 hg)) ?_
                                          clear hK K
                                          have hS6 := G.trans hS5 hg
                                          clear hg
                                          refine wpAnyJ_three (i := 0) (j := 1) (l := 8) (by kernel_rfl) rfl rfl rfl ?_ ?_ ?_
                                          · skip
                                            intro K hK
                                            go_simp
                                            refine hK.out _ _ (Or.inr (hS6.alloc _)) ?_
                                            clear hK K
                                            have hn := NI.new hS6 31
                                            have hal := (G.refl w6).alloc (.cells #[.bool false, .slice none 0 0] 31)
                                            have hS7 := G.trans hS6 hal
                                            generalize w6.heap.size = p0 at *
                                            generalize w6.alloc (.cells #[.bool false, .slice none 0 0] 31) = w7 at *
                                            have HA7 : Hid (NI w w7 p0 0) := hn
                                            clear hn hal hS6
                                            refine wpAnyJ_listed (l' := #[true, false, true, true, true, true, true, false, false, true, true, true, true, false, false, false, false]) (by kernel_rfl) ?_
                                            revert HA7
                                            revert hS7
                                            revert p0
                                            revert w7
                                            exact LSad.out
                                          · skip
                                            intro K hK
                                            go_simp
                                            refine hK.out _ _ (Or.inr (hS6.alloc _)) ?_
                                            clear hK K
                                            have hn := NI.new hS6 31
                                            have hal := (G.refl w6).alloc (.cells #[.bool false, .slice none 0 0] 31)
                                            have hS7 := G.trans hS6 hal
                                            generalize w6.heap.size = p1 at *
                                            generalize w6.alloc (.cells #[.bool false, .slice none 0 0] 31) = w7 at *
                                            have HB7 : Hid (NI w w7 p1 0) := hn
                                            clear hn hal hS6
                                            refine wpAnyJ_listed (l' := #[false, true, true, true, true, true, true, false, false, true, true, true, true, false, false, false, false]) (by kernel_rfl) ?_
                                            revert HB7
                                            revert hS7
                                            revert p1
                                            revert w7
                                            exact LSbd.out
                                          · skip
                                            intro K hK
                                            go_simp
                                            refine hK.out _ _ (Or.inr (hS6.alloc _)) ?_
                                            clear hK K
                                            have hn := NI.new hS6 31
                                            have hal := (G.refl w6).alloc (.cells #[.bool false, .slice none 0 0] 31)
                                            have hS7 := G.trans hS6 hal
                                            generalize w6.heap.size = p2 at *
                                            generalize w6.alloc (.cells #[.bool false, .slice none 0 0] 31) = w7 at *
                                            have HC7 : Hid (NI w w7 p2 0) := hn
                                            clear hn hal hS6
                                            refine wpAnyJ_listed (l' := #[false, false, true, true, true, true, true, false, true, true, true, true, true, false, false, false, false]) (by kernel_rfl) ?_
                                            revert HC7
                                            revert hS7
                                            revert p2
                                            revert w7
                                            exact LScd.out
                                        · skip
                                          intro K hK
                                          go_simp
                                          refine hK.out _ _ (Or.inr (hS5.alloc _)) ?_
                                          clear hK K
                                          have hn := NI.new hS5 31
                                          have hal := (G.refl w5).alloc (.cells #[.bool false, .slice none 0 0] 31)
                                          have hS6 := G.trans hS5 hal
                                          generalize w5.heap.size = p2 at *
                                          generalize w5.alloc (.cells #[.bool false, .slice none 0 0] 31) = w6 at *
                                          have HC6 : Hid (NI w w6 p2 0) := hn
                                          clear hn hal
                                          refine wpAnyJ_three (i := 0) (j := 1) (l := 6) (by kernel_rfl) rfl rfl rfl ?_ ?_ ?_
                                          · skip
                                            intro K hK
                                            go_simp
                                            refine hK.out _ _ (Or.inr (hS6.alloc _)) ?_
                                            clear hK K
                                            have hn := NI.new hS6 31
                                            have hal := (G.refl w6).alloc (.cells #[.bool false, .slice none 0 0] 31)
                                            have hS7 := G.trans hS6 hal
                                            have HCt := HC6.out.G hal
                                            have hneHC : w6.heap.size ≠ p2 := by have := HC6.out.2.1; omega
                                            generalize w6.heap.size = p0 at *
                                            generalize w6.alloc (.cells #[.bool false, .slice none 0 0] 31) = w7 at *
                                            have HA7 : Hid (NI w w7 p0 0) := hn
                                            have HC7 : Hid (NI w w7 p2 0) := HCt
                                            have HNEHAHC : Hid (p2 ≠ p0) := hneHC.symm
                                            have HNEHCHA : Hid (p0 ≠ p2) := hneHC
                                            clear hn hal hS6 HC6 HCt hneHC
                                            refine wpAnyJ_listed (l' := #[true, false, true, true, true, true, false, false, true, true, true, true, true, false, false, false, false]) (by kernel_rfl) ?_
                                            revert HNEHAHC
                                            revert HNEHCHA
                                            revert HC7
                                            revert HA7
                                            revert hS7
                                            revert p2
                                            revert p0
                                            revert w7
                                            exact LSac.out
                                          · skip
                                            intro K hK
                                            go_simp
                                            refine hK.out _ _ (Or.inr (hS6.alloc _)) ?_
                                            clear hK K
                                            have hn := NI.new hS6 31
                                            have hal := (G.refl w6).alloc (.cells #[.bool false, .slice none 0 0] 31)
                                            have hS7 := G.trans hS6 hal
                                            have HCt := HC6.out.G hal
                                            have hneHC : w6.heap.size ≠ p2 := by have := HC6.out.2.1; omega
                                            generalize w6.heap.size = p1 at *
                                            generalize w6.alloc (.cells #[.bool false, .slice none 0 0] 31) = w7 at *
                                            have HB7 : Hid (NI w w7 p1 0) := hn
                                            have HC7 : Hid (NI w w7 p2 0) := HCt
                                            have HNEHBHC : Hid (p2 ≠ p1) := hneHC.symm
                                            have HNEHCHB : Hid (p1 ≠ p2) := hneHC
                                            clear hn hal hS6 HC6 HCt hneHC
                                            refine wpAnyJ_listed (l' := #[false, true, true, true, true, true, false, false, true, true, true, true, true, false, false, false, false]) (by kernel_rfl) ?_
                                            revert HNEHCHB
                                            revert HNEHBHC
                                            revert HC7
                                            revert HB7
                                            revert hS7
                                            revert p2
                                            revert p1
                                            revert w7
                                            exact LSbc.out
                                          · skip
                                            intro K hK
                                            go_simp
                                            go_wp2_with (go_at_call 32; refine Calls.mono (P := Tryd.prog) (den_c w6 b2 ya yb hyb0 (HYR.out.G hby hS6)) ?_; rintro e w7 ⟨rfl, hg⟩)
                                            refine hK.out _ _ (Or.inr (G.trans hS6 hg)) ?_
                                            clear hK K
                                            have hS7 := G.trans hS6 hg
                                            have HC7 : Hid (NI w w7 p2 0) := HC6.out.G hg
                                            clear hg hS6 HC6
                                            refine wpAnyJ_listed (l' := #[false, false, true, true, true, true, true, false, true, true, true, true, true, false, false, false, false]) (by kernel_rfl) ?_
                                            revert HC7
                                            revert hS7
                                            revert p2
                                            revert w7
                                            exact LScd.out
                                      · skip
                                        refine Later.mk ?_
                                        intro w7 p2 hS7 HC7 
                                        refine wpAnyJ_two (i := 0) (j := 1) (by kernel_rfl) rfl rfl ?_ ?_
                                        · skip
                                          intro K hK
                                          go_simp
                                          refine hK.out _ _ (Or.inr (hS7.alloc _)) ?_
                                          clear hK K
                                          have hn := NI.new hS7 31
                                          have hal := (G.refl w7).alloc (.cells #[.bool false, .slice none 0 0] 31)
                                          have hS8 := G.trans hS7 hal
                                          have HCt := HC7.out.G hal
                                          have hneHC : w7.heap.size ≠ p2 := by have := HC7.out.2.1; omega
                                          generalize w7.heap.size = p0 at *
                                          generalize w7.alloc (.cells #[.bool false, .slice none 0 0] 31) = w8 at *
                                          have HA8 : Hid (NI w w8 p0 0) := hn
                                          have HC8 : Hid (NI w w8 p2 0) := HCt
                                          have HNEHAHC : Hid (p2 ≠ p0) := hneHC.symm
                                          have HNEHCHA : Hid (p0 ≠ p2) := hneHC
                                          clear hn hal hS7 HC7 HCt hneHC
                                          refine wpAnyJ_listed (l' := #[true, false, true, true, true, true, true, false, true, true, true, true, true, false, false, false, false]) (by kernel_rfl) ?_
                                          revert HNEHAHC
                                          revert HNEHCHA
                                          revert HC8
                                          revert HA8
                                          revert hS8
                                          revert p2
                                          revert p0
                                          revert w8
                                          exact LSacd.out
                                        · skip
                                          intro K hK
                                          go_simp
                                          refine hK.out _ _ (Or.inr (hS7.alloc _)) ?_
                                          clear hK K
                                          have hn := NI.new hS7 31
                                          have hal := (G.refl w7).alloc (.cells #[.bool false, .slice none 0 0] 31)
                                          have hS8 := G.trans hS7 hal
                                          have HCt := HC7.out.G hal
                                          have hneHC : w7.heap.size ≠ p2 := by have := HC7.out.2.1; omega
                                          generalize w7.heap.size = p1 at *
                                          generalize w7.alloc (.cells #[.bool false, .slice none 0 0] 31) = w8 at *
                                          have HB8 : Hid (NI w w8 p1 0) := hn
                                          have HC8 : Hid (NI w w8 p2 0) := HCt
                                          have HNEHBHC : Hid (p2 ≠ p1) := hneHC.symm
                                          have HNEHCHB : Hid (p1 ≠ p2) := hneHC
                                          clear hn hal hS7 HC7 HCt hneHC
                                          refine wpAnyJ_listed (l' := #[false, true, true, true, true, true, true, false, true, true, true, true, true, false, false, false, false]) (by kernel_rfl) ?_
                                          revert HNEHCHB
                                          revert HNEHBHC
                                          revert HC8
                                          revert HB8
                                          revert hS8
                                          revert p2
                                          revert p1
                                          revert w8
                                          exact LSbcd.out
                                    · skip
                                      refine Later.mk ?_
                                      intro w7 p1 hS7 HB7 
                                      refine wpAnyJ_three (i := 0) (j := 7) (l := 8) (by kernel_rfl) rfl rfl rfl ?_ ?_ ?_
                                      · skip
                                        intro K hK
                                        go_simp
                                        refine hK.out _ _ (Or.inr (hS7.alloc _)) ?_
                                        clear hK K
                                        have hn := NI.new hS7 31
                                        have hal := (G.refl w7).alloc (.cells #[.bool false, .slice none 0 0] 31)
                                        have hS8 := G.trans hS7 hal
                                        have HBt := HB7.out.G hal
                                        have hneHB : w7.heap.size ≠ p1 := by have := HB7.out.2.1; omega
                                        generalize w7.heap.size = p0 at *
                                        generalize w7.alloc (.cells #[.bool false, .slice none 0 0] 31) = w8 at *
                                        have HA8 : Hid (NI w w8 p0 0) := hn
                                        have HB8 : Hid (NI w w8 p1 0) := HBt
                                        have HNEHAHB : Hid (p1 ≠ p0) := hneHB.symm
                                        have HNEHBHA : Hid (p0 ≠ p1) := hneHB
                                        clear hn hal hS7 HB7 HBt hneHB
                                        refine wpAnyJ_listed (l' := #[true, true, true, true, true, true, true, false, false, true, true, true, true, false, false, false, false]) (by kernel_rfl) ?_
                                        revert HNEHAHB
                                        revert HNEHBHA
                                        revert HB8
                                        revert HA8
                                        revert hS8
                                        revert p1
                                        revert p0
                                        revert w8
                                        exact LSabd.out
                                      · skip
                                        intro K hK
                                        go_simp
                                        have HCW : Hid _ := mulI_c w7 p1 0 bx 0 b2 2 0 xa yb KB (by omega) HB01.out HB22.out HB7.out.2.1 (G.lt hS7 hbx) (G.lt hS7 hby) HB7.out.2.2 (IntIs.G HX0.out hbx hS7) (IntIs.G HY2.out hby hS7)
                                        go_wp2_with (go_at_call 31; refine Calls.mono (P := Tryd.prog) HCW.out ?_; intro e w8 hx; obtain ⟨rfl, hS8, hl, -, hkp⟩ := SetTo.step hS7 HB7.out hx)
                                        have HB8 : Hid (NI w w8 p1 (xa * (yb : Int))) := hl
                                        refine hK.out _ _ (Or.inr hS8) ?_
                                        clear hK K hx hl hkp HCW hS7 HB7
                                        refine wpAnyJ_three (i := 0) (j := 8) (l := 13) (by kernel_rfl) rfl rfl rfl ?_ ?_ ?_
                                        · skip
                                          intro K hK
                                          go_simp
                                          refine hK.out _ _ (Or.inr (hS8.alloc _)) ?_
                                          clear hK K
                                          have hn := NI.new hS8 31
                                          have hal := (G.refl w8).alloc (.cells #[.bool false, .slice none 0 0] 31)
                                          have hS9 := G.trans hS8 hal
                                          have HBt := HB8.out.G hal
                                          have hneHB : w8.heap.size ≠ p1 := by have := HB8.out.2.1; omega
                                          generalize w8.heap.size = p0 at *
                                          generalize w8.alloc (.cells #[.bool false, .slice none 0 0] 31) = w9 at *
                                          have HA9 : Hid (NI w w9 p0 0) := hn
                                          have HB9 : Hid (NI w w9 p1 (xa * (yb : Int))) := HBt
                                          have HNEHAHB : Hid (p1 ≠ p0) := hneHB.symm
                                          have HNEHBHA : Hid (p0 ≠ p1) := hneHB
                                          clear hn hal hS8 HB8 HBt hneHB
                                          refine wpAnyJ_listed (l' := #[true, true, true, true, true, true, true, true, false, true, true, true, true, false, false, false, false]) (by kernel_rfl) ?_
                                          revert HNEHAHB
                                          revert HNEHBHA
                                          revert HB9
                                          revert HA9
                                          revert hS9
                                          revert p1
                                          revert p0
                                          revert w9
                                          exact LSabdm.out
                                        · skip
                                          intro K hK
                                          go_simp
                                          refine hK.out _ _ (Or.inr (hS8.alloc _)) ?_
                                          clear hK K
                                          have hn := NI.new hS8 31
                                          have hal := (G.refl w8).alloc (.cells #[.bool false, .slice none 0 0] 31)
                                          have hS9 := G.trans hS8 hal
                                          have HBt := HB8.out.G hal
                                          have hneHB : w8.heap.size ≠ p1 := by have := HB8.out.2.1; omega
                                          generalize w8.heap.size = p2 at *
                                          generalize w8.alloc (.cells #[.bool false, .slice none 0 0] 31) = w9 at *
                                          have HC9 : Hid (NI w w9 p2 0) := hn
                                          have HB9 : Hid (NI w w9 p1 (xa * (yb : Int))) := HBt
                                          have HNEHCHB : Hid (p1 ≠ p2) := hneHB.symm
                                          have HNEHBHC : Hid (p2 ≠ p1) := hneHB
                                          clear hn hal hS8 HB8 HBt hneHB
                                          refine wpAnyJ_listed (l' := #[false, true, true, true, true, true, true, true, true, true, true, true, true, false, false, false, false]) (by kernel_rfl) ?_
                                          revert HNEHCHB
                                          revert HNEHBHC
                                          revert HC9
                                          revert HB9
                                          revert hS9
                                          revert p2
                                          revert p1
                                          revert w9
                                          exact LSbcdm.out
                                        · skip
                                          intro K hK
                                          go_simp
                                          go_wp2_with (go_at_call 32; refine Calls.mono (P := Tryd.prog) (den_c w8 bx xa xb hxb0 (HXR.out.G hbx hS8)) ?_; rintro e w9 ⟨rfl, hg⟩)
                                          refine hK.out _ _ (Or.inr (G.trans hS8 hg)) ?_
                                          clear hK K
                                          have hS9 := G.trans hS8 hg
                                          have HB9 : Hid (NI w w9 p1 (xa * (yb : Int))) := HB8.out.G hg
                                          clear hg hS8 HB8
                                          refine wpAnyJ_two (i := 0) (j := 8) (by kernel_rfl) rfl rfl ?_ ?_
                                          · skip
                                            intro K hK
                                            go_simp
                                            refine hK.out _ _ (Or.inr (hS9.alloc _)) ?_
                                            clear hK K
                                            have hn := NI.new hS9 31
                                            have hal := (G.refl w9).alloc (.cells #[.bool false, .slice none 0 0] 31)
                                            have hS10 := G.trans hS9 hal
                                            have HBt := HB9.out.G hal
                                            have hneHB : w9.heap.size ≠ p1 := by have := HB9.out.2.1; omega
                                            generalize w9.heap.size = p0 at *
                                            generalize w9.alloc (.cells #[.bool false, .slice none 0 0] 31) = w10 at *
                                            have HA10 : Hid (NI w w10 p0 0) := hn
                                            have HB10 : Hid (NI w w10 p1 (xa * (yb : Int))) := HBt
                                            have HNEHAHB : Hid (p1 ≠ p0) := hneHB.symm
                                            have HNEHBHA : Hid (p0 ≠ p1) := hneHB
                                            clear hn hal hS9 HB9 HBt hneHB
                                            refine wpAnyJ_listed (l' := #[true, true, true, true, true, true, true, true, false, true, true, true, true, true, false, false, false]) (by kernel_rfl) ?_
                                            revert HNEHAHB
                                            revert HNEHBHA
                                            revert HB10
                                            revert HA10
                                            revert hS10
                                            revert p1
                                            revert p0
                                            revert w10
                                            exact LSabdem.out
                                          · skip
                                            intro K hK
                                            go_simp
                                            refine hK.out _ _ (Or.inr (hS9.alloc _)) ?_
                                            clear hK K
                                            have hn := NI.new hS9 31
                                            have hal := (G.refl w9).alloc (.cells #[.bool false, .slice none 0 0] 31)
                                            have hS10 := G.trans hS9 hal
                                            have HBt := HB9.out.G hal
                                            have hneHB : w9.heap.size ≠ p1 := by have := HB9.out.2.1; omega
                                            generalize w9.heap.size = p2 at *
                                            generalize w9.alloc (.cells #[.bool false, .slice none 0 0] 31) = w10 at *
                                            have HC10 : Hid (NI w w10 p2 0) := hn
                                            have HB10 : Hid (NI w w10 p1 (xa * (yb : Int))) := HBt
                                            have HNEHCHB : Hid (p1 ≠ p2) := hneHB.symm
                                            have HNEHBHC : Hid (p2 ≠ p1) := hneHB
                                            clear hn hal hS9 HB9 HBt hneHB
                                            refine wpAnyJ_listed (l' := #[false, true, true, true, true, true, true, true, true, true, true, true, true, true, false, false, false]) (by kernel_rfl) ?_
                                            revert HNEHCHB
                                            revert HNEHBHC
                                            revert HC10
                                            revert HB10
                                            revert hS10
                                            revert p2
                                            revert p1
                                            revert w10
                                            exact LSbcdem.out
                                      · skip
                                        intro K hK
                                        go_simp
                                        refine hK.out _ _ (Or.inr (hS7.alloc _)) ?_
                                        clear hK K
                                        have hn := NI.new hS7 31
                                        have hal := (G.refl w7).alloc (.cells #[.bool false, .slice none 0 0] 31)
                                        have hS8 := G.trans hS7 hal
                                        have HBt := HB7.out.G hal
                                        have hneHB : w7.heap.size ≠ p1 := by have := HB7.out.2.1; omega
                                        generalize w7.heap.size = p2 at *
                                        generalize w7.alloc (.cells #[.bool false, .slice none 0 0] 31) = w8 at *
                                        have HC8 : Hid (NI w w8 p2 0) := hn
                                        have HB8 : Hid (NI w w8 p1 0) := HBt
                                        have HNEHCHB : Hid (p1 ≠ p2) := hneHB.symm
                                        have HNEHBHC : Hid (p2 ≠ p1) := hneHB
                                        clear hn hal hS7 HB7 HBt hneHB
                                        refine wpAnyJ_listed (l' := #[false, true, true, true, true, true, true, false, true, true, true, true, true, false, false, false, false]) (by kernel_rfl) ?_
                                        revert HNEHCHB
                                        revert HNEHBHC
                                        revert HC8
                                        revert HB8
                                        revert hS8
                                        revert p2
                                        revert p1
                                        revert w8
                                        exact LSbcd.out
                                  · skip
                                    refine Later.mk ?_
                                    intro w7 p1 p2 hS7 HB7 HC7 HNEHBHC HNEHCHB
                                    refine wpAnyJ_two (i := 0) (j := 6) (by kernel_rfl) rfl rfl ?_ ?_
                                    · skip
                                      intro K hK
                                      go_simp
                                      refine hK.out _ _ (Or.inr (hS7.alloc _)) ?_
                                      clear hK K
                                      have hn := NI.new hS7 31
                                      have hal := (G.refl w7).alloc (.cells #[.bool false, .slice none 0 0] 31)
                                      have hS8 := G.trans hS7 hal
                                      have HBt := HB7.out.G hal
                                      have HCt := HC7.out.G hal
                                      have hneHB : w7.heap.size ≠ p1 := by have := HB7.out.2.1; omega
                                      have hneHC : w7.heap.size ≠ p2 := by have := HC7.out.2.1; omega
                                      generalize w7.heap.size = p0 at *
                                      generalize w7.alloc (.cells #[.bool false, .slice none 0 0] 31) = w8 at *
                                      have HA8 : Hid (NI w w8 p0 0) := hn
                                      have HB8 : Hid (NI w w8 p1 0) := HBt
                                      have HC8 : Hid (NI w w8 p2 0) := HCt
                                      have HNEHAHB : Hid (p1 ≠ p0) := hneHB.symm
                                      have HNEHBHA : Hid (p0 ≠ p1) := hneHB
                                      have HNEHAHC : Hid (p2 ≠ p0) := hneHC.symm
                                      have HNEHCHA : Hid (p0 ≠ p2) := hneHC
                                      clear hn hal hS7 HB7 HC7 HBt HCt hneHB hneHC
                                      refine wpAnyJ_listed (l' := #[true, true, true, true, true, true, false, false, true, true, true, true, true, false, false, false, false]) (by kernel_rfl) ?_
                                      revert HNEHAHC
                                      revert HNEHAHB
                                      revert HNEHCHB
                                      revert HNEHCHA
                                      revert HNEHBHC
                                      revert HNEHBHA
                                      revert HC8
                                      revert HB8
                                      revert HA8
                                      revert hS8
                                      revert p2
                                      revert p1
                                      revert p0
                                      revert w8
                                      exact LSabc.out
                                    · skip
                                      intro K hK
                                      go_simp
                                      go_wp2_with (go_at_call 32; refine Calls.mono (P := Tryd.prog) (den_c w7 b2 ya yb hyb0 (HYR.out.G hby hS7)) ?_; rintro e w8 ⟨rfl, hg⟩)
                                      refine hK.out _ _ (Or.inr (G.trans hS7 hg)) ?_
                                      clear hK K
                                      have hS8 := G.trans hS7 hg
                                      have HB8 : Hid (NI w w8 p1 0) := HB7.out.G hg
                                      have HC8 : Hid (NI w w8 p2 0) := HC7.out.G hg
                                      clear hg hS7 HB7 HC7
                                      refine wpAnyJ_listed (l' := #[false, true, true, true, true, true, true, false, true, true, true, true, true, false, false, false, false]) (by kernel_rfl) ?_
                                      revert HNEHCHB
                                      revert HNEHBHC
                                      revert HC8
                                      revert HB8
                                      revert hS8
                                      revert p2
                                      revert p1
                                      revert w8
                                      exact LSbcd.out
                                · skip
                                  refine Later.mk ?_
                                  intro w7 p0 hS7 HA7 
                                  refine wpAnyJ_two (i := 1) (j := 8) (by kernel_rfl) rfl rfl ?_ ?_
                                  · skip
                                    intro K hK
                                    go_simp
                                    refine hK.out _ _ (Or.inr (hS7.alloc _)) ?_
                                    clear hK K
                                    have hn := NI.new hS7 31
                                    have hal := (G.refl w7).alloc (.cells #[.bool false, .slice none 0 0] 31)
                                    have hS8 := G.trans hS7 hal
                                    have HAt := HA7.out.G hal
                                    have hneHA : w7.heap.size ≠ p0 := by have := HA7.out.2.1; omega
                                    generalize w7.heap.size = p1 at *
                                    generalize w7.alloc (.cells #[.bool false, .slice none 0 0] 31) = w8 at *
                                    have HB8 : Hid (NI w w8 p1 0) := hn
                                    have HA8 : Hid (NI w w8 p0 0) := HAt
                                    have HNEHBHA : Hid (p0 ≠ p1) := hneHA.symm
                                    have HNEHAHB : Hid (p1 ≠ p0) := hneHA
                                    clear hn hal hS7 HA7 HAt hneHA
                                    refine wpAnyJ_listed (l' := #[true, true, true, true, true, true, true, false, false, true, true, true, true, false, false, false, false]) (by kernel_rfl) ?_
                                    revert HNEHAHB
                                    revert HNEHBHA
                                    revert HB8
                                    revert HA8
                                    revert hS8
                                    revert p1
                                    revert p0
                                    revert w8
                                    exact LSabd.out
                                  · skip
                                    intro K hK
                                    go_simp
                                    refine hK.out _ _ (Or.inr (hS7.alloc _)) ?_
                                    clear hK K
                                    have hn := NI.new hS7 31
                                    have hal := (G.refl w7).alloc (.cells #[.bool false, .slice none 0 0] 31)
                                    have hS8 := G.trans hS7 hal
                                    have HAt := HA7.out.G hal
                                    have hneHA : w7.heap.size ≠ p0 := by have := HA7.out.2.1; omega
                                    generalize w7.heap.size = p2 at *
                                    generalize w7.alloc (.cells #[.bool false, .slice none 0 0] 31) = w8 at *
                                    have HC8 : Hid (NI w w8 p2 0) := hn
                                    have HA8 : Hid (NI w w8 p0 0) := HAt
                                    have HNEHCHA : Hid (p0 ≠ p2) := hneHA.symm
                                    have HNEHAHC : Hid (p2 ≠ p0) := hneHA
                                    clear hn hal hS7 HA7 HAt hneHA
                                    refine wpAnyJ_listed (l' := #[true, false, true, true, true, true, true, false, true, true, true, true, true, false, false, false, false]) (by kernel_rfl) ?_
                                    revert HNEHAHC
                                    revert HNEHCHA
                                    revert HC8
                                    revert HA8
                                    revert hS8
                                    revert p2
                                    revert p0
                                    revert w8
                                    exact LSacd.out
                              · skip
                                refine Later.mk ?_
                                intro w7 p0 p2 hS7 HA7 HC7 HNEHCHA HNEHAHC
                                refine wpAnyJ_two (i := 1) (j := 6) (by kernel_rfl) rfl rfl ?_ ?_
                                · skip
                                  intro K hK
                                  go_simp
                                  refine hK.out _ _ (Or.inr (hS7.alloc _)) ?_
                                  clear hK K
                                  have hn := NI.new hS7 31
                                  have hal := (G.refl w7).alloc (.cells #[.bool false, .slice none 0 0] 31)
                                  have hS8 := G.trans hS7 hal
                                  have HAt := HA7.out.G hal
                                  have HCt := HC7.out.G hal
                                  have hneHA : w7.heap.size ≠ p0 := by have := HA7.out.2.1; omega
                                  have hneHC : w7.heap.size ≠ p2 := by have := HC7.out.2.1; omega
                                  generalize w7.heap.size = p1 at *
                                  generalize w7.alloc (.cells #[.bool false, .slice none 0 0] 31) = w8 at *
                                  have HB8 : Hid (NI w w8 p1 0) := hn
                                  have HA8 : Hid (NI w w8 p0 0) := HAt
                                  have HC8 : Hid (NI w w8 p2 0) := HCt
                                  have HNEHBHA : Hid (p0 ≠ p1) := hneHA.symm
                                  have HNEHAHB : Hid (p1 ≠ p0) := hneHA
                                  have HNEHBHC : Hid (p2 ≠ p1) := hneHC.symm
                                  have HNEHCHB : Hid (p1 ≠ p2) := hneHC
                                  clear hn hal hS7 HA7 HC7 HAt HCt hneHA hneHC
                                  refine wpAnyJ_listed (l' := #[true, true, true, true, true, true, false, false, true, true, true, true, true, false, false, false, false]) (by kernel_rfl) ?_
                                  revert HNEHAHC
                                  revert HNEHAHB
                                  revert HNEHCHB
                                  revert HNEHCHA
                                  revert HNEHBHC
                                  revert HNEHBHA
                                  revert HC8
                                  revert HB8
                                  revert HA8
                                  revert hS8
                                  revert p2
                                  revert p1
                                  revert p0
                                  revert w8
                                  exact LSabc.out
                                · skip
                                  intro K hK
                                  go_simp
                                  go_wp2_with (go_at_call 32; refine Calls.mono (P := Tryd.prog) (den_c w7 b2 ya yb hyb0 (HYR.out.G hby hS7)) ?_; rintro e w8 ⟨rfl, hg⟩)
                                  refine hK.out _ _ (Or.inr (G.trans hS7 hg)) ?_
                                  clear hK K
                                  have hS8 := G.trans hS7 hg
                                  have HA8 : Hid (NI w w8 p0 0) := HA7.out.G hg
                                  have HC8 : Hid (NI w w8 p2 0) := HC7.out.G hg
                                  clear hg hS7 HA7 HC7
                                  refine wpAnyJ_listed (l' := #[true, false, true, true, true, true, true, false, true, true, true, true, true, false, false, false, false]) (by kernel_rfl) ?_
                                  revert HNEHAHC
                                  revert HNEHCHA
                                  revert HC8
                                  revert HA8
                                  revert hS8
                                  revert p2
                                  revert p0
                                  revert w8
                                  exact LSacd.out
                            · skip
                              refine Later.mk ?_
                              intro w7 p0 p1 hS7 HA7 HB7 HNEHBHA HNEHAHB
                              refine wpAnyJ_two (i := 6) (j := 8) (by kernel_rfl) rfl rfl ?_ ?_
                              · skip
                                intro K hK
                                go_simp
                                go_wp2_with (go_at_call 32; refine Calls.mono (P := Tryd.prog) (den_c w7 b2 ya yb hyb0 (HYR.out.G hby hS7)) ?_; rintro e w8 ⟨rfl, hg⟩)
                                refine hK.out _ _ (Or.inr (G.trans hS7 hg)) ?_
                                clear hK K
                                have hS8 := G.trans hS7 hg
                                have HA8 : Hid (NI w w8 p0 0) := HA7.out.G hg
                                have HB8 : Hid (NI w w8 p1 0) := HB7.out.G hg
                                clear hg hS7 HA7 HB7
                                refine wpAnyJ_listed (l' := #[true, true, true, true, true, true, true, false, false, true, true, true, true, false, false, false, false]) (by kernel_rfl) ?_
                                revert HNEHAHB
                                revert HNEHBHA
                                revert HB8
                                revert HA8
                                revert hS8
                                revert p1
                                revert p0
                                revert w8
                                exact LSabd.out
                              · skip
                                intro K hK
                                go_simp
                                refine hK.out _ _ (Or.inr (hS7.alloc _)) ?_
                                clear hK K
                                have hn := NI.new hS7 31
                                have hal := (G.refl w7).alloc (.cells #[.bool false, .slice none 0 0] 31)
                                have hS8 := G.trans hS7 hal
                                have HAt := HA7.out.G hal
                                have HBt := HB7.out.G hal
                                have hneHA : w7.heap.size ≠ p0 := by have := HA7.out.2.1; omega
                                have hneHB : w7.heap.size ≠ p1 := by have := HB7.out.2.1; omega
                                generalize w7.heap.size = p2 at *
                                generalize w7.alloc (.cells #[.bool false, .slice none 0 0] 31) = w8 at *
                                have HC8 : Hid (NI w w8 p2 0) := hn
                                have HA8 : Hid (NI w w8 p0 0) := HAt
                                have HB8 : Hid (NI w w8 p1 0) := HBt
                                have HNEHCHA : Hid (p0 ≠ p2) := hneHA.symm
                                have HNEHAHC : Hid (p2 ≠ p0) := hneHA
                                have HNEHCHB : Hid (p1 ≠ p2) := hneHB.symm
                                have HNEHBHC : Hid (p2 ≠ p1) := hneHB
                                clear hn hal hS7 HA7 HB7 HAt HBt hneHA hneHB
                                refine wpAnyJ_listed (l' := #[true, true, true, true, true, true, false, false, true, true, true, true, true, false, false, false, false]) (by kernel_rfl) ?_
                                revert HNEHAHC
                                revert HNEHAHB
                                revert HNEHCHB
                                revert HNEHCHA
                                revert HNEHBHC
                                revert HNEHBHA
                                revert HC8
                                revert HB8
                                revert HA8
                                revert hS8
                                revert p2
                                revert p1
                                revert p0
                                revert w8
                                exact LSabc.out
                          · skip
                            refine Later.mk ?_
                            intro w8 p1 p2 hS8 HB8 HC8 HNEHBHC HNEHCHB
                            refine wpAnyJ_two (i := 0) (j := 7) (by kernel_rfl) rfl rfl ?_ ?_
                            · skip
                              intro K hK
                              go_simp
                              refine hK.out _ _ (Or.inr (hS8.alloc _)) ?_
                              clear hK K
                              have hn := NI.new hS8 31
                              have hal := (G.refl w8).alloc (.cells #[.bool false, .slice none 0 0] 31)
                              have hS9 := G.trans hS8 hal
                              have HBt := HB8.out.G hal
                              have HCt := HC8.out.G hal
                              have hneHB : w8.heap.size ≠ p1 := by have := HB8.out.2.1; omega
                              have hneHC : w8.heap.size ≠ p2 := by have := HC8.out.2.1; omega
                              generalize w8.heap.size = p0 at *
                              generalize w8.alloc (.cells #[.bool false, .slice none 0 0] 31) = w9 at *
                              have HA9 : Hid (NI w w9 p0 0) := hn
                              have HB9 : Hid (NI w w9 p1 0) := HBt
                              have HC9 : Hid (NI w w9 p2 0) := HCt
                              have HNEHAHB : Hid (p1 ≠ p0) := hneHB.symm
                              have HNEHBHA : Hid (p0 ≠ p1) := hneHB
                              have HNEHAHC : Hid (p2 ≠ p0) := hneHC.symm
                              have HNEHCHA : Hid (p0 ≠ p2) := hneHC
                              clear hn hal hS8 HB8 HC8 HBt HCt hneHB hneHC
                              refine wpAnyJ_listed (l' := #[true, true, true, true, true, true, true, false, true, true, true, true, true, false, false, false, false]) (by kernel_rfl) ?_
                              revert HNEHAHC
                              revert HNEHAHB
                              revert HNEHCHB
                              revert HNEHCHA
                              revert HNEHBHC
                              revert HNEHBHA
                              revert HC9
                              revert HB9
                              revert HA9
                              revert hS9
                              revert p2
                              revert p1
                              revert p0
                              revert w9
                              exact LSabcd.out
                            · skip
                              intro K hK
                              go_simp
                              have HCW : Hid _ := mulI_c w8 p1 0 bx 0 b2 2 0 xa yb KB (by omega) HB01.out HB22.out HB8.out.2.1 (G.lt hS8 hbx) (G.lt hS8 hby) HB8.out.2.2 (IntIs.G HX0.out hbx hS8) (IntIs.G HY2.out hby hS8)
                              go_wp2_with (go_at_call 31; refine Calls.mono (P := Tryd.prog) HCW.out ?_; intro e w9 hx; obtain ⟨rfl, hS9, hl, -, hkp⟩ := SetTo.step hS8 HB8.out hx)
                              have HB9 : Hid (NI w w9 p1 (xa * (yb : Int))) := hl
                              have HC9 : Hid (NI w w9 p2 0) := hkp p2 0 HNEHBHC.out HC8.out
                              refine hK.out _ _ (Or.inr hS9) ?_
                              clear hK K hx hl hkp HCW hS8 HB8 HC8
                              refine wpAnyJ_listed (l' := #[false, true, true, true, true, true, true, true, true, true, true, true, true, false, false, false, false]) (by kernel_rfl) ?_
                              revert HNEHCHB
                              revert HNEHBHC
                              revert HC9
                              revert HB9
                              revert hS9
                              revert p2
                              revert p1
                              revert w9
                              exact LSbcdm.out
                        · skip
                          refine Later.mk ?_
                          intro w8 p0 p2 hS8 HA8 HC8 HNEHCHA HNEHAHC
                          refine wpAnyJ_next (i := 1) (by kernel_rfl) rfl ?_
                          intro K hK
                          go_simp
                          refine hK.out _ _ (Or.inr (hS8.alloc _)) ?_
                          clear hK K
                          have hn := NI.new hS8 31
                          have hal := (G.refl w8).alloc (.cells #[.bool false, .slice none 0 0] 31)
                          have hS9 := G.trans hS8 hal
                          have HAt := HA8.out.G hal
                          have HCt := HC8.out.G hal
                          have hneHA : w8.heap.size ≠ p0 := by have := HA8.out.2.1; omega
                          have hneHC : w8.heap.size ≠ p2 := by have := HC8.out.2.1; omega
                          generalize w8.heap.size = p1 at *
                          generalize w8.alloc (.cells #[.bool false, .slice none 0 0] 31) = w9 at *
                          have HB9 : Hid (NI w w9 p1 0) := hn
                          have HA9 : Hid (NI w w9 p0 0) := HAt
                          have HC9 : Hid (NI w w9 p2 0) := HCt
                          have HNEHBHA : Hid (p0 ≠ p1) := hneHA.symm
                          have HNEHAHB : Hid (p1 ≠ p0) := hneHA
                          have HNEHBHC : Hid (p2 ≠ p1) := hneHC.symm
                          have HNEHCHB : Hid (p1 ≠ p2) := hneHC
                          clear hn hal hS8 HA8 HC8 HAt HCt hneHA hneHC
                          refine wpAnyJ_listed (l' := #[true, true, true, true, true, true, true, false, true, true, true, true, true, false, false, false, false]) (by kernel_rfl) ?_
                          revert HNEHAHC
                          revert HNEHAHB
                          revert HNEHCHB
                          revert HNEHCHA
                          revert HNEHBHC
                          revert HNEHBHA
                          revert HC9
                          revert HB9
                          revert HA9
                          revert hS9
                          revert p2
                          revert p1
                          revert p0
                          revert w9
                          exact LSabcd.out
                      · skip
                        refine Later.mk ?_
                        intro w8 p0 p1 hS8 HA8 HB8 HNEHBHA HNEHAHB
                        refine wpAnyJ_two (i := 7) (j := 8) (by kernel_rfl) rfl rfl ?_ ?_
                        · skip
                          intro K hK
                          go_simp
                          have HCW : Hid _ := mulI_c w8 p1 0 bx 0 b2 2 0 xa yb KB (by omega) HB01.out HB22.out HB8.out.2.1 (G.lt hS8 hbx) (G.lt hS8 hby) HB8.out.2.2 (IntIs.G HX0.out hbx hS8) (IntIs.G HY2.out hby hS8)
                          go_wp2_with (go_at_call 31; refine Calls.mono (P := Tryd.prog) HCW.out ?_; intro e w9 hx; obtain ⟨rfl, hS9, hl, -, hkp⟩ := SetTo.step hS8 HB8.out hx)
                          have HB9 : Hid (NI w w9 p1 (xa * (yb : Int))) := hl
                          have HA9 : Hid (NI w w9 p0 0) := hkp p0 0 HNEHBHA.out HA8.out
                          refine hK.out _ _ (Or.inr hS9) ?_
                          clear hK K hx hl hkp HCW hS8 HA8 HB8
                          refine wpAnyJ_listed (l' := #[true, true, true, true, true, true, true, true, false, true, true, true, true, false, false, false, false]) (by kernel_rfl) ?_
                          revert HNEHAHB
                          revert HNEHBHA
                          revert HB9
                          revert HA9
                          revert hS9
                          revert p1
                          revert p0
                          revert w9
                          exact LSabdm.out
                        · skip
                          intro K hK
                          go_simp
                          refine hK.out _ _ (Or.inr (hS8.alloc _)) ?_
                          clear hK K
                          have hn := NI.new hS8 31
                          have hal := (G.refl w8).alloc (.cells #[.bool false, .slice none 0 0] 31)
                          have hS9 := G.trans hS8 hal
                          have HAt := HA8.out.G hal
                          have HBt := HB8.out.G hal
                          have hneHA : w8.heap.size ≠ p0 := by have := HA8.out.2.1; omega
                          have hneHB : w8.heap.size ≠ p1 := by have := HB8.out.2.1; omega
                          generalize w8.heap.size = p2 at *
                          generalize w8.alloc (.cells #[.bool false, .slice none 0 0] 31) = w9 at *
                          have HC9 : Hid (NI w w9 p2 0) := hn
                          have HA9 : Hid (NI w w9 p0 0) := HAt
                          have HB9 : Hid (NI w w9 p1 0) := HBt
                          have HNEHCHA : Hid (p0 ≠ p2) := hneHA.symm
                          have HNEHAHC : Hid (p2 ≠ p0) := hneHA
                          have HNEHCHB : Hid (p1 ≠ p2) := hneHB.symm
                          have HNEHBHC : Hid (p2 ≠ p1) := hneHB
                          clear hn hal hS8 HA8 HB8 HAt HBt hneHA hneHB
                          refine wpAnyJ_listed (l' := #[true, true, true, true, true, true, true, false, true, true, true, true, true, false, false, false, false]) (by kernel_rfl) ?_
                          revert HNEHAHC
                          revert HNEHAHB
                          revert HNEHCHB
                          revert HNEHCHA
                          revert HNEHBHC
                          revert HNEHBHA
                          revert HC9
                          revert HB9
                          revert HA9
                          revert hS9
                          revert p2
                          revert p1
                          revert p0
                          revert w9
                          exact LSabcd.out
                    · skip
                      refine Later.mk ?_
                      intro w8 p0 p1 p2 hS8 HA8 HB8 HC8 HNEHBHA HNEHBHC HNEHCHA HNEHCHB HNEHAHB HNEHAHC
                      refine wpAnyJ_next (i := 6) (by kernel_rfl) rfl ?_
                      intro K hK
                      go_simp
                      go_wp2_with (go_at_call 32; refine Calls.mono (P := Tryd.prog) (den_c w8 b2 ya yb hyb0 (HYR.out.G hby hS8)) ?_; rintro e w9 ⟨rfl, hg⟩)
                      refine hK.out _ _ (Or.inr (G.trans hS8 hg)) ?_
                      clear hK K
                      have hS9 := G.trans hS8 hg
                      have HA9 : Hid (NI w w9 p0 0) := HA8.out.G hg
                      have HB9 : Hid (NI w w9 p1 0) := HB8.out.G hg
                      have HC9 : Hid (NI w w9 p2 0) := HC8.out.G hg
                      clear hg hS8 HA8 HB8 HC8
                      refine wpAnyJ_listed (l' := #[true, true, true, true, true, true, true, false, true, true, true, true, true, false, false, false, false]) (by kernel_rfl) ?_
                      revert HNEHAHC
                      revert HNEHAHB
                      revert HNEHCHB
                      revert HNEHCHA
                      revert HNEHBHC
                      revert HNEHBHA
                      revert HC9
                      revert HB9
                      revert HA9
                      revert hS9
                      revert p2
                      revert p1
                      revert p0
                      revert w9
                      exact LSabcd.out
                  · skip
                    refine Later.mk ?_
                    intro w9 p1 p2 hS9 HB9 HC9 HNEHBHC HNEHCHB
                    refine wpAnyJ_two (i := 0) (j := 13) (by kernel_rfl) rfl rfl ?_ ?_
                    · skip
                      intro K hK
                      go_simp
                      refine hK.out _ _ (Or.inr (hS9.alloc _)) ?_
                      clear hK K
                      have hn := NI.new hS9 31
                      have hal := (G.refl w9).alloc (.cells #[.bool false, .slice none 0 0] 31)
                      have hS10 := G.trans hS9 hal
                      have HBt := HB9.out.G hal
                      have HCt := HC9.out.G hal
                      have hneHB : w9.heap.size ≠ p1 := by have := HB9.out.2.1; omega
                      have hneHC : w9.heap.size ≠ p2 := by have := HC9.out.2.1; omega
                      generalize w9.heap.size = p0 at *
                      generalize w9.alloc (.cells #[.bool false, .slice none 0 0] 31) = w10 at *
                      have HA10 : Hid (NI w w10 p0 0) := hn
                      have HB10 : Hid (NI w w10 p1 (xa * (yb : Int))) := HBt
                      have HC10 : Hid (NI w w10 p2 0) := HCt
                      have HNEHAHB : Hid (p1 ≠ p0) := hneHB.symm
                      have HNEHBHA : Hid (p0 ≠ p1) := hneHB
                      have HNEHAHC : Hid (p2 ≠ p0) := hneHC.symm
                      have HNEHCHA : Hid (p0 ≠ p2) := hneHC
                      clear hn hal hS9 HB9 HC9 HBt HCt hneHB hneHC
                      refine wpAnyJ_listed (l' := #[true, true, true, true, true, true, true, true, true, true, true, true, true, false, false, false, false]) (by kernel_rfl) ?_
                      revert HNEHAHC
                      revert HNEHAHB
                      revert HNEHCHB
                      revert HNEHCHA
                      revert HNEHBHC
                      revert HNEHBHA
                      revert HC10
                      revert HB10
                      revert HA10
                      revert hS10
                      revert p2
                      revert p1
                      revert p0
                      revert w10
                      exact LSabcdm.out
                    · skip
                      intro K hK
                      go_simp
                      go_wp2_with (go_at_call 32; refine Calls.mono (P := Tryd.prog) (den_c w9 bx xa xb hxb0 (HXR.out.G hbx hS9)) ?_; rintro e w10 ⟨rfl, hg⟩)
                      refine hK.out _ _ (Or.inr (G.trans hS9 hg)) ?_
                      clear hK K
                      have hS10 := G.trans hS9 hg
                      have HB10 : Hid (NI w w10 p1 (xa * (yb : Int))) := HB9.out.G hg
                      have HC10 : Hid (NI w w10 p2 0) := HC9.out.G hg
                      clear hg hS9 HB9 HC9
                      refine wpAnyJ_listed (l' := #[false, true, true, true, true, true, true, true, true, true, true, true, true, true, false, false, false]) (by kernel_rfl) ?_
                      revert HNEHCHB
                      revert HNEHBHC
                      revert HC10
                      revert HB10
                      revert hS10
                      revert p2
                      revert p1
                      revert w10
                      exact LSbcdem.out
                · skip
                  refine Later.mk ?_
                  intro w9 p0 p1 hS9 HA9 HB9 HNEHBHA HNEHAHB
                  refine wpAnyJ_two (i := 8) (j := 13) (by kernel_rfl) rfl rfl ?_ ?_
                  · skip
                    intro K hK
                    go_simp
                    refine hK.out _ _ (Or.inr (hS9.alloc _)) ?_
                    clear hK K
                    have hn := NI.new hS9 31
                    have hal := (G.refl w9).alloc (.cells #[.bool false, .slice none 0 0] 31)
                    have hS10 := G.trans hS9 hal
                    have HAt := HA9.out.G hal
                    have HBt := HB9.out.G hal
                    have hneHA : w9.heap.size ≠ p0 := by have := HA9.out.2.1; omega
                    have hneHB : w9.heap.size ≠ p1 := by have := HB9.out.2.1; omega
                    generalize w9.heap.size = p2 at *
                    generalize w9.alloc (.cells #[.bool false, .slice none 0 0] 31) = w10 at *
                    have HC10 : Hid (NI w w10 p2 0) := hn
                    have HA10 : Hid (NI w w10 p0 0) := HAt
                    have HB10 : Hid (NI w w10 p1 (xa * (yb : Int))) := HBt
                    have HNEHCHA : Hid (p0 ≠ p2) := hneHA.symm
                    have HNEHAHC : Hid (p2 ≠ p0) := hneHA
                    have HNEHCHB : Hid (p1 ≠ p2) := hneHB.symm
                    have HNEHBHC : Hid (p2 ≠ p1) := hneHB
                    clear hn hal hS9 HA9 HB9 HAt HBt hneHA hneHB
                    refine wpAnyJ_listed (l' := #[true, true, true, true, true, true, true, true, true, true, true, true, true, false, false, false, false]) (by kernel_rfl) ?_
                    revert HNEHAHC
                    revert HNEHAHB
                    revert HNEHCHB
                    revert HNEHCHA
                    revert HNEHBHC
                    revert HNEHBHA
                    revert HC10
                    revert HB10
                    revert HA10
                    revert hS10
                    revert p2
                    revert p1
                    revert p0
                    revert w10
                    exact LSabcdm.out
                  · skip
                    intro K hK
                    go_simp
                    go_wp2_with (go_at_call 32; refine Calls.mono (P := Tryd.prog) (den_c w9 bx xa xb hxb0 (HXR.out.G hbx hS9)) ?_; rintro e w10 ⟨rfl, hg⟩)
                    refine hK.out _ _ (Or.inr (G.trans hS9 hg)) ?_
                    clear hK K
                    have hS10 := G.trans hS9 hg
                    have HA10 : Hid (NI w w10 p0 0) := HA9.out.G hg
                    have HB10 : Hid (NI w w10 p1 (xa * (yb : Int))) := HB9.out.G hg
                    clear hg hS9 HA9 HB9
                    refine wpAnyJ_listed (l' := #[true, true, true, true, true, true, true, true, false, true, true, true, true, true, false, false, false]) (by kernel_rfl) ?_
                    revert HNEHAHB
                    revert HNEHBHA
                    revert HB10
                    revert HA10
                    revert hS10
                    revert p1
                    revert p0
                    revert w10
                    exact LSabdem.out
              · skip
                refine Later.mk ?_
                intro w9 p0 p1 p2 hS9 HA9 HB9 HC9 HNEHBHA HNEHBHC HNEHCHA HNEHCHB HNEHAHB HNEHAHC
                refine wpAnyJ_next (i := 7) (by kernel_rfl) rfl ?_
                intro K hK
                go_simp
                have HCW : Hid _ := mulI_c w9 p1 0 bx 0 b2 2 0 xa yb KB (by omega) HB01.out HB22.out HB9.out.2.1 (G.lt hS9 hbx) (G.lt hS9 hby) HB9.out.2.2 (IntIs.G HX0.out hbx hS9) (IntIs.G HY2.out hby hS9)
                go_wp2_with (go_at_call 31; refine Calls.mono (P := Tryd.prog) HCW.out ?_; intro e w10 hx; obtain ⟨rfl, hS10, hl, -, hkp⟩ := SetTo.step hS9 HB9.out hx)
                have HB10 : Hid (NI w w10 p1 (xa * (yb : Int))) := hl
                have HA10 : Hid (NI w w10 p0 0) := hkp p0 0 HNEHBHA.out HA9.out
                have HC10 : Hid (NI w w10 p2 0) := hkp p2 0 HNEHBHC.out HC9.out
                refine hK.out _ _ (Or.inr hS10) ?_
                clear hK K hx hl hkp HCW hS9 HA9 HB9 HC9
                refine wpAnyJ_listed (l' := #[true, true, true, true, true, true, true, true, true, true, true, true, true, false, false, false, false]) (by kernel_rfl) ?_
                revert HNEHAHC
                revert HNEHAHB
                revert HNEHCHB
                revert HNEHCHA
                revert HNEHBHC
                revert HNEHBHA
                revert HC10
                revert HB10
                revert HA10
                revert hS10
                revert p2
                revert p1
                revert p0
                revert w10
                exact LSabcdm.out
            · skip
              refine Later.mk ?_
              intro w10 p1 p2 hS10 HB10 HC10 HNEHBHC HNEHCHB
              refine wpAnyJ_two (i := 0) (j := 14) (by kernel_rfl) rfl rfl ?_ ?_
              · skip
                intro K hK
                go_simp
                refine hK.out _ _ (Or.inr (hS10.alloc _)) ?_
                clear hK K
                have hn := NI.new hS10 31
                have hal := (G.refl w10).alloc (.cells #[.bool false, .slice none 0 0] 31)
                have hS11 := G.trans hS10 hal
                have HBt := HB10.out.G hal
                have HCt := HC10.out.G hal
                have hneHB : w10.heap.size ≠ p1 := by have := HB10.out.2.1; omega
                have hneHC : w10.heap.size ≠ p2 := by have := HC10.out.2.1; omega
                generalize w10.heap.size = p0 at *
                generalize w10.alloc (.cells #[.bool false, .slice none 0 0] 31) = w11 at *
                have HA11 : Hid (NI w w11 p0 0) := hn
                have HB11 : Hid (NI w w11 p1 (xa * (yb : Int))) := HBt
                have HC11 : Hid (NI w w11 p2 0) := HCt
                have HNEHAHB : Hid (p1 ≠ p0) := hneHB.symm
                have HNEHBHA : Hid (p0 ≠ p1) := hneHB
                have HNEHAHC : Hid (p2 ≠ p0) := hneHC.symm
                have HNEHCHA : Hid (p0 ≠ p2) := hneHC
                clear hn hal hS10 HB10 HC10 HBt HCt hneHB hneHC
                refine wpAnyJ_listed (l' := #[true, true, true, true, true, true, true, true, true, true, true, true, true, true, false, false, false]) (by kernel_rfl) ?_
                revert HNEHAHC
                revert HNEHAHB
                revert HNEHCHB
                revert HNEHCHA
                revert HNEHBHC
                revert HNEHBHA
                revert HC11
                revert HB11
                revert HA11
                revert hS11
                revert p2
                revert p1
                revert p0
                revert w11
                exact LSabcdem.out
              · skip
                intro K hK
                go_simp
                have HCW : Hid _ := mulI_c w10 p2 0 b2 0 bx 2 0 ya xb KB (by omega) HB02.out HB21.out HC10.out.2.1 (G.lt hS10 hby) (G.lt hS10 hbx) HC10.out.2.2 (IntIs.G HY0.out hby hS10) (IntIs.G HX2.out hbx hS10)
                go_wp2_with (go_at_call 31; refine Calls.mono (P := Tryd.prog) HCW.out ?_; intro e w11 hx; obtain ⟨rfl, hS11, hl, -, hkp⟩ := SetTo.step hS10 HC10.out hx)
                have HC11 : Hid (NI w w11 p2 (ya * (xb : Int))) := hl
                have HB11 : Hid (NI w w11 p1 (xa * (yb : Int))) := hkp p1 (xa * (yb : Int)) HNEHCHB.out HB10.out
                refine hK.out _ _ (Or.inr hS11) ?_
                clear hK K hx hl hkp HCW hS10 HB10 HC10
                refine wpAnyJ_next (i := 0) (by kernel_rfl) rfl ?_
                intro K hK
                go_simp
                refine hK.out _ _ (Or.inr (hS11.alloc _)) ?_
                clear hK K
                have hn := NI.new hS11 31
                have hal := (G.refl w11).alloc (.cells #[.bool false, .slice none 0 0] 31)
                have hS12 := G.trans hS11 hal
                have HBt := HB11.out.G hal
                have HCt := HC11.out.G hal
                have hneHB : w11.heap.size ≠ p1 := by have := HB11.out.2.1; omega
                have hneHC : w11.heap.size ≠ p2 := by have := HC11.out.2.1; omega
                generalize w11.heap.size = p0 at *
                generalize w11.alloc (.cells #[.bool false, .slice none 0 0] 31) = w12 at *
                have HA12 : Hid (NI w w12 p0 0) := hn
                have HB12 : Hid (NI w w12 p1 (xa * (yb : Int))) := HBt
                have HC12 : Hid (NI w w12 p2 (ya * (xb : Int))) := HCt
                have HNEHAHB : Hid (p1 ≠ p0) := hneHB.symm
                have HNEHBHA : Hid (p0 ≠ p1) := hneHB
                have HNEHAHC : Hid (p2 ≠ p0) := hneHC.symm
                have HNEHCHA : Hid (p0 ≠ p2) := hneHC
                clear hn hal hS11 HB11 HC11 HBt HCt hneHB hneHC
                refine wpAnyJ_listed (l' := #[true, true, true, true, true, true, true, true, true, true, true, true, true, true, true, false, false]) (by kernel_rfl) ?_
                revert HNEHAHC
                revert HNEHAHB
                revert HNEHCHB
                revert HNEHCHA
                revert HNEHBHC
                revert HNEHBHA
                revert HC12
                revert HB12
                revert HA12
                revert hS12
                revert p2
                revert p1
                revert p0
                revert w12
                exact LSabcdemn.out
          · skip
            refine Later.mk ?_
            intro w10 p0 p1 hS10 HA10 HB10 HNEHBHA HNEHAHB
            refine wpAnyJ_next (i := 8) (by kernel_rfl) rfl ?_
            intro K hK
            go_simp
            refine hK.out _ _ (Or.inr (hS10.alloc _)) ?_
            clear hK K
            have hn := NI.new hS10 31
            have hal := (G.refl w10).alloc (.cells #[.bool false, .slice none 0 0] 31)
            have hS11 := G.trans hS10 hal
            have HAt := HA10.out.G hal
            have HBt := HB10.out.G hal
            have hneHA : w10.heap.size ≠ p0 := by have := HA10.out.2.1; omega
            have hneHB : w10.heap.size ≠ p1 := by have := HB10.out.2.1; omega
            generalize w10.heap.size = p2 at *
            generalize w10.alloc (.cells #[.bool false, .slice none 0 0] 31) = w11 at *
            have HC11 : Hid (NI w w11 p2 0) := hn
            have HA11 : Hid (NI w w11 p0 0) := HAt
            have HB11 : Hid (NI w w11 p1 (xa * (yb : Int))) := HBt
            have HNEHCHA : Hid (p0 ≠ p2) := hneHA.symm
            have HNEHAHC : Hid (p2 ≠ p0) := hneHA
            have HNEHCHB : Hid (p1 ≠ p2) := hneHB.symm
            have HNEHBHC : Hid (p2 ≠ p1) := hneHB
            clear hn hal hS10 HA10 HB10 HAt HBt hneHA hneHB
            refine wpAnyJ_listed (l' := #[true, true, true, true, true, true, true, true, true, true, true, true, true, true, false, false, false]) (by kernel_rfl) ?_
            revert HNEHAHC
            revert HNEHAHB
            revert HNEHCHB
            revert HNEHCHA
            revert HNEHBHC
            revert HNEHBHA
            revert HC11
            revert HB11
            revert HA11
            revert hS11
            revert p2
            revert p1
            revert p0
            revert w11
            exact LSabcdem.out
        · skip
          refine Later.mk ?_
          intro w10 p0 p1 p2 hS10 HA10 HB10 HC10 HNEHBHA HNEHBHC HNEHCHA HNEHCHB HNEHAHB HNEHAHC
          refine wpAnyJ_next (i := 13) (by kernel_rfl) rfl ?_
          intro K hK
          go_simp
          go_wp2_with (go_at_call 32; refine Calls.mono (P := Tryd.prog) (den_c w10 bx xa xb hxb0 (HXR.out.G hbx hS10)) ?_; rintro e w11 ⟨rfl, hg⟩)
          refine hK.out _ _ (Or.inr (G.trans hS10 hg)) ?_
          clear hK K
          have hS11 := G.trans hS10 hg
          have HA11 : Hid (NI w w11 p0 0) := HA10.out.G hg
          have HB11 : Hid (NI w w11 p1 (xa * (yb : Int))) := HB10.out.G hg
          have HC11 : Hid (NI w w11 p2 0) := HC10.out.G hg
          clear hg hS10 HA10 HB10 HC10
          refine wpAnyJ_listed (l' := #[true, true, true, true, true, true, true, true, true, true, true, true, true, true, false, false, false]) (by kernel_rfl) ?_
          revert HNEHAHC
          revert HNEHAHB
          revert HNEHCHB
          revert HNEHCHA
          revert HNEHBHC
          revert HNEHBHA
          revert HC11
          revert HB11
          revert HA11
          revert hS11
          revert p2
          revert p1
          revert p0
          revert w11
          exact LSabcdem.out
      · skip
        refine Later.mk ?_
        intro w11 p0 p1 p2 hS11 HA11 HB11 HC11 HNEHBHA HNEHBHC HNEHCHA HNEHCHB HNEHAHB HNEHAHC
        refine wpAnyJ_next (i := 14) (by kernel_rfl) rfl ?_
        intro K hK
        go_simp
        have HCW : Hid _ := mulI_c w11 p2 0 b2 0 bx 2 0 ya xb KB (by omega) HB02.out HB21.out HC11.out.2.1 (G.lt hS11 hby) (G.lt hS11 hbx) HC11.out.2.2 (IntIs.G HY0.out hby hS11) (IntIs.G HX2.out hbx hS11)
        go_wp2_with (go_at_call 31; refine Calls.mono (P := Tryd.prog) HCW.out ?_; intro e w12 hx; obtain ⟨rfl, hS12, hl, -, hkp⟩ := SetTo.step hS11 HC11.out hx)
        have HC12 : Hid (NI w w12 p2 (ya * (xb : Int))) := hl
        have HA12 : Hid (NI w w12 p0 0) := hkp p0 0 HNEHCHA.out HA11.out
        have HB12 : Hid (NI w w12 p1 (xa * (yb : Int))) := hkp p1 (xa * (yb : Int)) HNEHCHB.out HB11.out
        refine hK.out _ _ (Or.inr hS12) ?_
        clear hK K hx hl hkp HCW hS11 HA11 HB11 HC11
        refine wpAnyJ_listed (l' := #[true, true, true, true, true, true, true, true, true, true, true, true, true, true, true, false, false]) (by kernel_rfl) ?_
        revert HNEHAHC
        revert HNEHAHB
        revert HNEHCHB
        revert HNEHCHA
        revert HNEHBHC
        revert HNEHBHA
        revert HC12
        revert HB12
        revert HA12
        revert hS12
        revert p2
        revert p1
        revert p0
        revert w12
        exact LSabcdemn.out
    · skip
      refine Later.mk ?_
      intro w12 p0 p1 p2 hS12 HA12 HB12 HC12 HNEHBHA HNEHBHC HNEHCHA HNEHCHB HNEHAHB HNEHAHC
      refine wpAnyJ_next (i := 15) (by kernel_rfl) rfl ?_
      intro K hK
      go_simp
      have HCW : Hid _ := addI_c w12 p0 0 p1 0 p2 0 0 (xa * (yb : Int)) (ya * (xb : Int)) (2 * KB) (by omega) HN1.out HN2.out HA12.out.2.1 HB12.out.2.1 HC12.out.2.1 HA12.out.2.2 HB12.out.2.2 HC12.out.2.2
      go_wp2_with (go_at_call 30; refine Calls.mono (P := Tryd.prog) HCW.out ?_; intro e w13 hx; obtain ⟨rfl, hS13, hl, -, hkp⟩ := SetTo.step hS12 HA12.out hx)
      have HA13 : Hid (NI w w13 p0 (xa * (yb : Int) + ya * (xb : Int))) := hl
      have HB13 : Hid (NI w w13 p1 (xa * (yb : Int))) := hkp p1 (xa * (yb : Int)) HNEHAHB.out HB12.out
      have HC13 : Hid (NI w w13 p2 (ya * (xb : Int))) := hkp p2 (ya * (xb : Int)) HNEHAHC.out HC12.out
      refine hK.out _ _ (Or.inl (by decide)) ?_
      clear hK K hx hl hkp HCW hS12 HA12 HB12 HC12
      refine wpAnyJ_next (i := 16) (by kernel_rfl) rfl ?_
      intro K hK
      go_simp
      refine hK.out _ _ (Or.inl (by decide)) ?_
      clear hK K
      refine wpAnyJ_done (by kernel_rfl) ?_ _
      revert HNEHAHC
      revert HNEHAHB
      revert HNEHCHB
      revert HNEHCHA
      revert HNEHBHC
      revert HNEHBHA
      revert HC13
      revert HB13
      revert HA13
      revert hS13
      revert p2
      revert p1
      revert p0
      revert w13
      exact LX.out
  · skip
    refine Later.mk ?_
    intro w13 p0 p1 p2 hS13 HA13 HB13 HC13 HNEHBHA HNEHBHC HNEHCHA HNEHCHB HNEHAHB HNEHAHC
    clear HNEHAHB HNEHAHC HNEHBHA HNEHBHC HNEHCHA HNEHCHB
    have HS := HA13.out
    have hG := hS13
    clear HA13 HB13 HC13 hS13
    have HS0 : Hid (NI w w13 p0 (xa * (yb : Int) + ya * (xb : Int))) := HS
    clear HS
    go_wp2_with fail
    have hn0 := NI.new hG 31
    have hal := (G.refl w13).alloc (.cells #[.bool false, .slice none 0 0] 31)
    have hG1 := G.trans hG hal
    have hs1 := HS0.out.G hal
    have hne : p0 ≠ w13.heap.size := by have := HS0.out.2.1; omega
    generalize w13.heap.size = pd at *
    generalize w13.alloc (.cells #[.bool false, .slice none 0 0] 31) = v1 at *
    have HP1 : Hid (NI w v1 pd 0) := hn0
    have HS1 : Hid (NI w v1 p0 (xa * (yb : Int) + ya * (xb : Int))) := hs1
    clear hn0 hal hs1 hG HS0
    refine Calls.mono (P := Tryd.prog) (den_c v1 bx xa xb hxb0 (HXR.out.G hbx hG1)) ?_
    rintro e v2 ⟨rfl, hg2⟩
    have hG2 := G.trans hG1 hg2
    have HP2 : Hid (NI w v2 pd 0) := HP1.out.G hg2
    have HS2 : Hid (NI w v2 p0 (xa * (yb : Int) + ya * (xb : Int))) := HS1.out.G hg2
    clear hG1 hg2 HP1 HS1
    go_wp2_with fail
    refine Calls.mono (P := Tryd.prog) (den_c v2 b2 ya yb hyb0 (HYR.out.G hby hG2)) ?_
    rintro e v3 ⟨rfl, hg3⟩
    have hG3 := G.trans hG2 hg3
    have HP3 : Hid (NI w v3 pd 0) := HP2.out.G hg3
    have HS3 : Hid (NI w v3 p0 (xa * (yb : Int) + ya * (xb : Int))) := HS2.out.G hg3
    clear hG2 hg3 HP2 HS2
    have HM : Hid _ := mulI_c v3 pd 0 bx 2 b2 2 0 xb yb KB (by omega) HB21.out HB22.out HP3.out.2.1 (G.lt hG3 hbx) (G.lt hG3 hby) HP3.out.2.2 (IntIs.G HX2.out hbx hG3) (IntIs.G HY2.out hby hG3)
    go_wp2_with fail
    refine Calls.mono (P := Tryd.prog) HM.out ?_
    intro e v4 hs
    obtain ⟨rfl, hG4, hp4, -, hkp⟩ := SetTo.step hG3 HP3.out hs
    have HS4 : Hid (NI w v4 p0 (xa * (yb : Int) + ya * (xb : Int))) := hkp p0 _ hne HS3.out
    rw [show (xb : Int) * yb = ((xb * yb : Nat) : Int) from by push_cast; rfl] at hp4
    have HP4 : Hid (NI w v4 pd ((xb * yb : Nat) : Int)) := hp4
    clear hs hkp hp4 HM HP3 HS3 hG3 hne
    have HF : Hid _ := setFrac_c v4 bz p0 0 pd 0 s1 s2 (xa * (yb : Int) + ya * (xb : Int)) (xb * yb) (2 * KB + 1) (by omega) HNS.out HD2.out HD0.out (G.lt hG4 hbz) HS4.out.2.1 HP4.out.2.1 (HZR.out.G hbz hG4) HS4.out.2.2 HP4.out.2.2
    go_wp2_with fail
    refine Calls.mono (P := Tryd.prog) HF.out ?_
    intro e v5 hs
    obtain ⟨rfl, k1, k2⟩ := NormTo.after hG4 hs
    have HK2 : Hid _ := k2
    clear hs k2 HF HS4 HP4
    go_wp2_with fail
    go_ret
    exact ⟨rfl, k1, HK2.out⟩

end Go.Proofs.YtkelfdhpekkiaacDoor
