/- What is proved here: contracts of the reference's ratios: Mul of Rat, over this seat's translation. -/
import Derived.Test.YtkelfdhpekkiaacDoorC19
import Derived.Test.YtkelfdhpekkiaacDoorC13
namespace Go.Proofs.YtkelfdhpekkiaacDoor
open Go.ChangeShapes Go.WideShapes Go.ChangeAt Go.RowKit
open BN

theorem NormTo.after {w w1 : World} {b : Nat} {sa : Int} {sb : Nat} {e : Ending} {w' : World} (g : G w w1) (h : NormTo w1 b sa sb e w') : NormTo w b sa sb e w' :=
  ⟨h.1, (GX.of g).trans h.2.1, h.2.2⟩

set_option maxHeartbeats 4000000 in
theorem mulR_c (w : World) (bz bx b2 : Nat) (s1 s2 xa ya : Int) (xb yb : Nat) (KB : Nat) (hK : KB ≤ 100000) (hx2 : xa.natAbs < 2 ^ (32 * KB)) (hy2 : ya.natAbs < 2 ^ (32 * KB)) (hxb2 : xb < 2 ^ (32 * KB)) (hyb2 : yb < 2 ^ (32 * KB)) (hxb : 0 < xb) (hyb : 0 < yb)
    (hbz : bz < w.heap.size) (hbx : bx < w.heap.size) (hby : b2 < w.heap.size) (hz : RatIs w bz s1 s2) (hx : RatIs w bx xa xb) (hy : RatIs w b2 ya yb) :
    Calls Tryd.prog 14 #[.pointer (some ⟨bz, 0, none⟩), .pointer (some ⟨bx, 0, none⟩), .pointer (some ⟨b2, 0, none⟩)] w (NormTo w bz (Int.tdiv (xa * ya) (Nat.gcd (xa * ya).natAbs (xb * yb) : Nat)) (xb * yb / Nat.gcd (xa * ya).natAbs (xb * yb))) := by
  have HB01 : Hid (xa.natAbs < 2 ^ (32 * KB)) := hx2
  have HB02 : Hid (ya.natAbs < 2 ^ (32 * KB)) := hy2
  have HB21 : Hid ((xb : Int).natAbs < 2 ^ (32 * KB)) := by show (xb : Int).natAbs < 2 ^ (32 * KB); rw [Int.natAbs_natCast]; exact hxb2
  have HB22 : Hid ((yb : Int).natAbs < 2 ^ (32 * KB)) := by show (yb : Int).natAbs < 2 ^ (32 * KB); rw [Int.natAbs_natCast]; exact hyb2
  have HX0 : Hid (IntIs w bx 0 xa) := hx.1
  have HY0 : Hid (IntIs w b2 0 ya) := hy.1
  have HX2 : Hid (IntIs w bx 2 xb) := hx.2
  have HY2 : Hid (IntIs w b2 2 yb) := hy.2
  have HXR : Hid (RatIs w bx xa xb) := hx
  have HYR : Hid (RatIs w b2 ya yb) := hy
  have HZR : Hid (RatIs w bz s1 s2) := hz
  have hxb0 : (xb : Int) ≠ 0 := by omega
  have hyb0 : (yb : Int) ≠ 0 := by omega
  have HN2 : Hid ((xa * ya).natAbs < 2 ^ (32 * (2 * KB))) := by
    show (xa * ya).natAbs < 2 ^ (32 * (2 * KB))
    rw [Int.natAbs_mul, show 32 * (2 * KB) = 32 * KB + 32 * KB from by omega, Nat.pow_add]
    exact Nat.mul_lt_mul'' hx2 hy2
  have HD2 : Hid (xb * yb < 2 ^ (32 * (2 * KB))) := by
    show xb * yb < 2 ^ (32 * (2 * KB))
    rw [show 32 * (2 * KB) = 32 * KB + 32 * KB from by omega, Nat.pow_add]
    exact Nat.mul_lt_mul'' hxb2 hyb2
  have HD0 : Hid (0 < xb * yb) := Nat.mul_pos hxb hyb
  have HDD : Hid ((xb : Int) * yb = ((xb * yb : Nat) : Int)) := by show (xb : Int) * yb = ((xb * yb : Nat) : Int); push_cast; rfl
  clear hx hy hz hx2 hy2 hxb2 hyb2 hxb hyb
  go_enter Tryd.func14, Tryd.ntmps14
  go_wp2_with fail
  refine region_J 15 (G w) (by kernel_rfl) (by first | exact (G.refl _).drew | exact G.drew (by assumption)) ?_
  intro hSh
  refine wpAnyJ_take (i := 0) (v := ?_) rfl (by kernel_rfl) (by kernel_rfl) (by kernel_rfl) (by kernel_rfl) (by kernel_rfl) (by kernel_rfl) (by kernel_rfl) (fun _ _ _ h => h) (Or.inl ⟨by rfl, ?_⟩) (by assumption) ?_
  rotate_left
  · intro wq hwq
    first | (go_simp; done) | (go_simp; with_reducible rfl)
  try simp only [Act.put, List.setIfInBounds_toArray, List.set_cons_zero, List.set_cons_succ]
  refine wpAnyJ_take (i := 2) (v := ?_) rfl (by kernel_rfl) (by kernel_rfl) (by kernel_rfl) (by kernel_rfl) (by kernel_rfl) (by kernel_rfl) (by kernel_rfl) (fun _ _ _ h => h) (Or.inl ⟨by rfl, ?_⟩) (by assumption) ?_
  rotate_left
  · intro wq hwq
    first | (go_simp; done) | (go_simp; with_reducible rfl)
  try simp only [Act.put, List.setIfInBounds_toArray, List.set_cons_zero, List.set_cons_succ]
  refine wpAnyJ_take (i := 3) (v := ?_) rfl (by kernel_rfl) (by kernel_rfl) (by kernel_rfl) (by kernel_rfl) (by kernel_rfl) (by kernel_rfl) (by kernel_rfl) (fun _ _ _ h => h) (Or.inl ⟨by rfl, ?_⟩) (by assumption) ?_
  rotate_left
  · intro wq hwq
    first | (go_simp; done) | (go_simp; with_reducible rfl)
  try simp only [Act.put, List.setIfInBounds_toArray, List.set_cons_zero, List.set_cons_succ]
  refine wpAnyJ_take (i := 4) (v := ?_) rfl (by kernel_rfl) (by kernel_rfl) (by kernel_rfl) (by kernel_rfl) (by kernel_rfl) (by kernel_rfl) (by kernel_rfl) (fun _ _ _ h => h) (Or.inl ⟨by rfl, ?_⟩) (by assumption) ?_
  rotate_left
  · intro wq hwq
    first | (go_simp; done) | (go_simp; with_reducible rfl)
  try simp only [Act.put, List.setIfInBounds_toArray, List.set_cons_zero, List.set_cons_succ]
  refine wpAnyJ_take (i := 5) (v := ?_) rfl (by kernel_rfl) (by kernel_rfl) (by kernel_rfl) (by kernel_rfl) (by kernel_rfl) (by kernel_rfl) (by kernel_rfl) (fun _ _ _ h => h) (Or.inl ⟨by rfl, ?_⟩) (by assumption) ?_
  rotate_left
  · intro wq hwq
    first | (go_simp; done) | (go_simp; with_reducible rfl)
  try simp only [Act.put, List.setIfInBounds_toArray, List.set_cons_zero, List.set_cons_succ]
  refine wpAnyJ_take (i := 6) (v := ?_) rfl (by kernel_rfl) (by kernel_rfl) (by kernel_rfl) (by kernel_rfl) (by kernel_rfl) (by kernel_rfl) (by kernel_rfl) (fun _ _ _ h => h) (Or.inl ⟨by rfl, ?_⟩) (by assumption) ?_
  rotate_left
  · intro wq hwq
    first | (go_simp; done) | (go_simp; with_reducible rfl)
  try simp only [Act.put, List.setIfInBounds_toArray, List.set_cons_zero, List.set_cons_succ]
  refine wpAnyJ_take (i := 7) (v := ?_) rfl (by kernel_rfl) (by kernel_rfl) (by kernel_rfl) (by kernel_rfl) (by kernel_rfl) (by kernel_rfl) (by kernel_rfl) (fun _ _ _ h => h) (Or.inl ⟨by rfl, ?_⟩) (by assumption) ?_
  rotate_left
  · intro wq hwq
    first | (go_simp; done) | (go_simp; with_reducible rfl)
  try simp only [Act.put, List.setIfInBounds_toArray, List.set_cons_zero, List.set_cons_succ]
  refine wpAnyJ_take (i := 10) (v := ?_) rfl (by kernel_rfl) (by kernel_rfl) (by kernel_rfl) (by kernel_rfl) (by kernel_rfl) (by kernel_rfl) (by kernel_rfl) (fun _ _ _ h => h) (Or.inl ⟨by rfl, ?_⟩) (by assumption) ?_
  rotate_left
  · intro wq hwq
    first | (go_simp; done) | (go_simp; with_reducible rfl)
  try simp only [Act.put, List.setIfInBounds_toArray, List.set_cons_zero, List.set_cons_succ]
  refine wpAnyJ_take (i := 12) (v := ?_) rfl (by kernel_rfl) (by kernel_rfl) (by kernel_rfl) (by kernel_rfl) (by kernel_rfl) (by kernel_rfl) (by kernel_rfl) (fun _ _ _ h => h) (Or.inl ⟨by rfl, ?_⟩) (by assumption) ?_
  rotate_left
  · intro wq hwq
    first | (go_simp; done) | (go_simp; with_reducible rfl)
  try simp only [Act.put, List.setIfInBounds_toArray, List.set_cons_zero, List.set_cons_succ]
  show wpAnyJ _ _ _ _ _ _ _ _ _ w.drew
  have hS5 := hSh
  generalize w.drew = w5 at *
  clear hSh
  apply share
  · intro LSbcdem
    apply share
    · intro LSbcdm
      apply share
      · intro LSbcm
        apply share
        · intro LSbc
          refine wpAnyJ_two (i := 1) (j := 9) (by kernel_rfl) rfl rfl ?_ ?_
          · skip
            intro K hK
            go_simp
            refine hK.out _ _ (Or.inr (hS5.alloc _)) ?_
            clear hK K
            have hn := NI.new hS5 31
            have hal := (G.refl w5).alloc (.cells #[.bool false, .slice none 0 0] 31)
            have hS6 := G.trans hS5 hal
            generalize w5.heap.size = pn at *
            generalize w5.alloc (.cells #[.bool false, .slice none 0 0] 31) = w6 at *
            have HP6 : Hid (NI w w6 pn 0) := hn
            clear hn hal
            refine wpAnyJ_two (i := 8) (j := 9) (by kernel_rfl) rfl rfl ?_ ?_
            · skip
              intro K hK
              go_simp
              have HCW : Hid _ := mulI_c w6 pn 0 bx 0 b2 0 0 xa ya KB (by omega) HB01.out HB02.out HP6.out.2.1 (G.lt hS6 hbx) (G.lt hS6 hby) HP6.out.2.2 (IntIs.G HX0.out hbx hS6) (IntIs.G HY0.out hby hS6)
              go_wp2_with (go_at_call 31; refine Calls.mono (P := Tryd.prog) HCW.out ?_; intro e w7 hx; obtain ⟨rfl, hS7, hl, -, hkp⟩ := SetTo.step hS6 HP6.out hx)
              have HP7 : Hid (NI w w7 pn (xa * ya)) := hl
              refine hK.out _ _ (Or.inr hS7) ?_
              clear hK K hx hl hkp HCW hS6 HP6
              refine wpAnyJ_two (i := 9) (j := 11) (by kernel_rfl) rfl rfl ?_ ?_
              · skip
                intro K hK
                go_simp
                refine hK.out _ _ (Or.inr (hS7.alloc _)) ?_
                clear hK K
                have hn := NI.new hS7 31
                have hal := (G.refl w7).alloc (.cells #[.bool false, .slice none 0 0] 31)
                have hS8 := G.trans hS7 hal
                have HPt := HP7.out.G hal
                have hneHP : w7.heap.size ≠ pn := by have := HP7.out.2.1; omega
                generalize w7.heap.size = pd at *
                generalize w7.alloc (.cells #[.bool false, .slice none 0 0] 31) = w8 at *
                have HQ8 : Hid (NI w w8 pd 0) := hn
                have HP8 : Hid (NI w w8 pn (xa * ya)) := HPt
                have HNEHQHP : Hid (pn ≠ pd) := hneHP.symm
                have HNEHPHQ : Hid (pd ≠ pn) := hneHP
                clear hn hal hS7 HP7 HPt hneHP
                refine wpAnyJ_listed (l' := #[true, true, true, true, true, true, true, true, true, true, true, false, true, false, false, false, false]) (by kernel_rfl) ?_
                revert HNEHQHP
                revert HNEHPHQ
                revert HQ8
                revert HP8
                revert hS8
                revert pd
                revert pn
                revert w8
                exact LSbcm.out
              · skip
                intro K hK
                go_simp
                go_wp2_with (go_at_call 32; refine Calls.mono (P := Tryd.prog) (den_c w7 bx xa xb hxb0 (HXR.out.G hbx hS7)) ?_; rintro e w8 ⟨rfl, hg⟩)
                refine hK.out _ _ (Or.inr (G.trans hS7 hg)) ?_
                clear hK K
                have hS8 := G.trans hS7 hg
                have HP8 : Hid (NI w w8 pn (xa * ya)) := HP7.out.G hg
                clear hg hS7 HP7
                refine wpAnyJ_two (i := 9) (j := 13) (by kernel_rfl) rfl rfl ?_ ?_
                · skip
                  intro K hK
                  go_simp
                  refine hK.out _ _ (Or.inr (hS8.alloc _)) ?_
                  clear hK K
                  have hn := NI.new hS8 31
                  have hal := (G.refl w8).alloc (.cells #[.bool false, .slice none 0 0] 31)
                  have hS9 := G.trans hS8 hal
                  have HPt := HP8.out.G hal
                  have hneHP : w8.heap.size ≠ pn := by have := HP8.out.2.1; omega
                  generalize w8.heap.size = pd at *
                  generalize w8.alloc (.cells #[.bool false, .slice none 0 0] 31) = w9 at *
                  have HQ9 : Hid (NI w w9 pd 0) := hn
                  have HP9 : Hid (NI w w9 pn (xa * ya)) := HPt
                  have HNEHQHP : Hid (pn ≠ pd) := hneHP.symm
                  have HNEHPHQ : Hid (pd ≠ pn) := hneHP
                  clear hn hal hS8 HP8 HPt hneHP
                  refine wpAnyJ_listed (l' := #[true, true, true, true, true, true, true, true, true, true, true, true, true, false, false, false, false]) (by kernel_rfl) ?_
                  revert HNEHQHP
                  revert HNEHPHQ
                  revert HQ9
                  revert HP9
                  revert hS9
                  revert pd
                  revert pn
                  revert w9
                  exact LSbcdm.out
                · skip
                  intro K hK
                  go_simp
                  go_wp2_with (go_at_call 32; refine Calls.mono (P := Tryd.prog) (den_c w8 b2 ya yb hyb0 (HYR.out.G hby hS8)) ?_; rintro e w9 ⟨rfl, hg⟩)
                  refine hK.out _ _ (Or.inr (G.trans hS8 hg)) ?_
                  clear hK K
                  have hS9 := G.trans hS8 hg
                  have HP9 : Hid (NI w w9 pn (xa * ya)) := HP8.out.G hg
                  clear hg hS8 HP8
                  refine wpAnyJ_next (i := 9) (by kernel_rfl) rfl ?_
                  intro K hK
                  go_simp
                  refine hK.out _ _ (Or.inr (hS9.alloc _)) ?_
                  clear hK K
                  have hn := NI.new hS9 31
                  have hal := (G.refl w9).alloc (.cells #[.bool false, .slice none 0 0] 31)
                  have hS10 := G.trans hS9 hal
                  have HPt := HP9.out.G hal
                  have hneHP : w9.heap.size ≠ pn := by have := HP9.out.2.1; omega
                  generalize w9.heap.size = pd at *
                  generalize w9.alloc (.cells #[.bool false, .slice none 0 0] 31) = w10 at *
                  have HQ10 : Hid (NI w w10 pd 0) := hn
                  have HP10 : Hid (NI w w10 pn (xa * ya)) := HPt
                  have HNEHQHP : Hid (pn ≠ pd) := hneHP.symm
                  have HNEHPHQ : Hid (pd ≠ pn) := hneHP
                  clear hn hal hS9 HP9 HPt hneHP
                  refine wpAnyJ_listed (l' := #[true, true, true, true, true, true, true, true, true, true, true, true, true, true, false, false, false]) (by kernel_rfl) ?_
                  revert HNEHQHP
                  revert HNEHPHQ
                  revert HQ10
                  revert HP10
                  revert hS10
                  revert pd
                  revert pn
                  revert w10
                  exact LSbcdem.out
            · skip
              intro K hK
              go_simp
              refine hK.out _ _ (Or.inr (hS6.alloc _)) ?_
              clear hK K
              have hn := NI.new hS6 31
              have hal := (G.refl w6).alloc (.cells #[.bool false, .slice none 0 0] 31)
              have hS7 := G.trans hS6 hal
              have HPt := HP6.out.G hal
              have hneHP : w6.heap.size ≠ pn := by have := HP6.out.2.1; omega
              generalize w6.heap.size = pd at *
              generalize w6.alloc (.cells #[.bool false, .slice none 0 0] 31) = w7 at *
              have HQ7 : Hid (NI w w7 pd 0) := hn
              have HP7 : Hid (NI w w7 pn 0) := HPt
              have HNEHQHP : Hid (pn ≠ pd) := hneHP.symm
              have HNEHPHQ : Hid (pd ≠ pn) := hneHP
              clear hn hal hS6 HP6 HPt hneHP
              refine wpAnyJ_listed (l' := #[true, true, true, true, true, true, true, true, false, true, true, false, true, false, false, false, false]) (by kernel_rfl) ?_
              revert HNEHQHP
              revert HNEHPHQ
              revert HQ7
              revert HP7
              revert hS7
              revert pd
              revert pn
              revert w7
              exact LSbc.out
          · skip
            intro K hK
            go_simp
            refine hK.out _ _ (Or.inr (hS5.alloc _)) ?_
            clear hK K
            have hn := NI.new hS5 31
            have hal := (G.refl w5).alloc (.cells #[.bool false, .slice none 0 0] 31)
            have hS6 := G.trans hS5 hal
            generalize w5.heap.size = pd at *
            generalize w5.alloc (.cells #[.bool false, .slice none 0 0] 31) = w6 at *
            have HQ6 : Hid (NI w w6 pd 0) := hn
            clear hn hal
            refine wpAnyJ_next (i := 1) (by kernel_rfl) rfl ?_
            intro K hK
            go_simp
            refine hK.out _ _ (Or.inr (hS6.alloc _)) ?_
            clear hK K
            have hn := NI.new hS6 31
            have hal := (G.refl w6).alloc (.cells #[.bool false, .slice none 0 0] 31)
            have hS7 := G.trans hS6 hal
            have HQt := HQ6.out.G hal
            have hneHQ : w6.heap.size ≠ pd := by have := HQ6.out.2.1; omega
            generalize w6.heap.size = pn at *
            generalize w6.alloc (.cells #[.bool false, .slice none 0 0] 31) = w7 at *
            have HP7 : Hid (NI w w7 pn 0) := hn
            have HQ7 : Hid (NI w w7 pd 0) := HQt
            have HNEHPHQ : Hid (pd ≠ pn) := hneHQ.symm
            have HNEHQHP : Hid (pn ≠ pd) := hneHQ
            clear hn hal hS6 HQ6 HQt hneHQ
            refine wpAnyJ_listed (l' := #[true, true, true, true, true, true, true, true, false, true, true, false, true, false, false, false, false]) (by kernel_rfl) ?_
            revert HNEHQHP
            revert HNEHPHQ
            revert HQ7
            revert HP7
            revert hS7
            revert pd
            revert pn
            revert w7
            exact LSbc.out
        · skip
          refine Later.mk ?_
          intro w7 pn pd hS7 HP7 HQ7 HNEHPHQ HNEHQHP
          refine wpAnyJ_next (i := 8) (by kernel_rfl) rfl ?_
          intro K hK
          go_simp
          have HCW : Hid _ := mulI_c w7 pn 0 bx 0 b2 0 0 xa ya KB (by omega) HB01.out HB02.out HP7.out.2.1 (G.lt hS7 hbx) (G.lt hS7 hby) HP7.out.2.2 (IntIs.G HX0.out hbx hS7) (IntIs.G HY0.out hby hS7)
          go_wp2_with (go_at_call 31; refine Calls.mono (P := Tryd.prog) HCW.out ?_; intro e w8 hx; obtain ⟨rfl, hS8, hl, -, hkp⟩ := SetTo.step hS7 HP7.out hx)
          have HP8 : Hid (NI w w8 pn (xa * ya)) := hl
          have HQ8 : Hid (NI w w8 pd 0) := hkp pd 0 HNEHPHQ.out HQ7.out
          refine hK.out _ _ (Or.inr hS8) ?_
          clear hK K hx hl hkp HCW hS7 HP7 HQ7
          refine wpAnyJ_listed (l' := #[true, true, true, true, true, true, true, true, true, true, true, false, true, false, false, false, false]) (by kernel_rfl) ?_
          revert HNEHQHP
          revert HNEHPHQ
          revert HQ8
          revert HP8
          revert hS8
          revert pd
          revert pn
          revert w8
          exact LSbcm.out
      · skip
        refine Later.mk ?_
        intro w8 pn pd hS8 HP8 HQ8 HNEHPHQ HNEHQHP
        refine wpAnyJ_next (i := 11) (by kernel_rfl) rfl ?_
        intro K hK
        go_simp
        go_wp2_with (go_at_call 32; refine Calls.mono (P := Tryd.prog) (den_c w8 bx xa xb hxb0 (HXR.out.G hbx hS8)) ?_; rintro e w9 ⟨rfl, hg⟩)
        refine hK.out _ _ (Or.inr (G.trans hS8 hg)) ?_
        clear hK K
        have hS9 := G.trans hS8 hg
        have HP9 : Hid (NI w w9 pn (xa * ya)) := HP8.out.G hg
        have HQ9 : Hid (NI w w9 pd 0) := HQ8.out.G hg
        clear hg hS8 HP8 HQ8
        refine wpAnyJ_listed (l' := #[true, true, true, true, true, true, true, true, true, true, true, true, true, false, false, false, false]) (by kernel_rfl) ?_
        revert HNEHQHP
        revert HNEHPHQ
        revert HQ9
        revert HP9
        revert hS9
        revert pd
        revert pn
        revert w9
        exact LSbcdm.out
    · skip
      refine Later.mk ?_
      intro w9 pn pd hS9 HP9 HQ9 HNEHPHQ HNEHQHP
      refine wpAnyJ_next (i := 13) (by kernel_rfl) rfl ?_
      intro K hK
      go_simp
      go_wp2_with (go_at_call 32; refine Calls.mono (P := Tryd.prog) (den_c w9 b2 ya yb hyb0 (HYR.out.G hby hS9)) ?_; rintro e w10 ⟨rfl, hg⟩)
      refine hK.out _ _ (Or.inr (G.trans hS9 hg)) ?_
      clear hK K
      have hS10 := G.trans hS9 hg
      have HP10 : Hid (NI w w10 pn (xa * ya)) := HP9.out.G hg
      have HQ10 : Hid (NI w w10 pd 0) := HQ9.out.G hg
      clear hg hS9 HP9 HQ9
      refine wpAnyJ_listed (l' := #[true, true, true, true, true, true, true, true, true, true, true, true, true, true, false, false, false]) (by kernel_rfl) ?_
      revert HNEHQHP
      revert HNEHPHQ
      revert HQ10
      revert HP10
      revert hS10
      revert pd
      revert pn
      revert w10
      exact LSbcdem.out
  · skip
    refine Later.mk ?_
    intro w10 pn pd hS10 HP10 HQ10 HNEHPHQ HNEHQHP
    refine wpAnyJ_next (i := 14) (by kernel_rfl) rfl ?_
    intro K hK
    go_simp
    have HCW : Hid _ := HDD.out ▸ mulI_c w10 pd 0 bx 2 b2 2 0 xb yb KB (by omega) HB21.out HB22.out HQ10.out.2.1 (G.lt hS10 hbx) (G.lt hS10 hby) HQ10.out.2.2 (IntIs.G HX2.out hbx hS10) (IntIs.G HY2.out hby hS10)
    go_wp2_with (go_at_call 31; refine Calls.mono (P := Tryd.prog) HCW.out ?_; intro e w11 hx; obtain ⟨rfl, hS11, hl, -, hkp⟩ := SetTo.step hS10 HQ10.out hx)
    have HQ11 : Hid (NI w w11 pd ((xb * yb : Nat) : Int)) := hl
    have HP11 : Hid (NI w w11 pn (xa * ya)) := hkp pn (xa * ya) HNEHQHP.out HP10.out
    refine hK.out _ _ (Or.inr hS11) ?_
    clear hK K hx hl hkp HCW hS10 HP10 HQ10
    refine wpAnyJ_next (i := 15) (by kernel_rfl) rfl ?_
    intro K hK
    go_simp
    have HSF : Hid _ := setFrac_c w11 bz pn 0 pd 0 s1 s2 (xa * ya) (xb * yb) (2 * KB) (by omega) HN2.out HD2.out HD0.out (G.lt hS11 hbz) HP11.out.2.1 HQ11.out.2.1 (HZR.out.G hbz hS11) HP11.out.2.2 HQ11.out.2.2
    go_wp2_with (go_at_call 33; refine Calls.mono (P := Tryd.prog) HSF.out ?_; intro e w12 hx; obtain ⟨rfl, k1, k2⟩ := NormTo.after hS11 hx)
    have HK2 : Hid _ := k2
    refine hK.out _ _ (Or.inl (by decide)) ?_
    clear hx k2 hK K HSF
    refine wpAnyJ_next (i := 16) (by kernel_rfl) rfl ?_
    intro K hK
    go_simp
    refine hK.out _ _ (Or.inl (by decide)) ?_
    clear hK K
    refine wpAnyJ_done (by kernel_rfl) ?_ _
    go_wp2_with fail
    go_ret
    exact ⟨rfl, k1, HK2.out⟩

end Go.Proofs.YtkelfdhpekkiaacDoor
