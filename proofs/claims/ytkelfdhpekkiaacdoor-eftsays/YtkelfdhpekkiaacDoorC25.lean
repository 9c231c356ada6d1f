/- What is proved here: the exact values of the law EftSays, as closures, over this seat's translation.
What is proved here: the law EftSays, its walk, over this seat's translation.
What is proved here: the law EftSays for all words, over this seat's translation. -/
import Derived.Test.YtkelfdhpekkiaacDoorC24
namespace Go.Proofs.YtkelfdhpekkiaacDoor
open Go.ChangeShapes Go.WideShapes Go.ChangeAt Go.RowKit
open BN
open EA (Z Low Is RnZ Rp top)

set_option maxRecDepth 10000 in
set_option maxHeartbeats 8000000 in
theorem clo_1 (w : World) (pa pb a b K : Nat) (A1 A2 R : Int) (B1 B2 T : Nat) (hB1 : 0 < B1) (hB2 : 0 < B2) (hT : 0 < T) (ca : w.cell? ⟨pa, 0, none⟩ = some (.float .f64 a)) (cb : w.cell? ⟨pb, 0, none⟩ = some (.float .f64 b)) (hpa : pa < w.heap.size) (hpb : pb < w.heap.size)
    (HA : ∀ w, Calls Tryd.prog 11 #[.float .f64 a] w (RetR w A1 B1)) (HB : ∀ w, Calls Tryd.prog 11 #[.float .f64 b] w (RetR w A2 B2)) (hK : K ≤ 100000)
    (q1 : A1.natAbs < 2 ^ (32 * K)) (q1' : B1 < 2 ^ (32 * K)) (q2 : A2.natAbs < 2 ^ (32 * K)) (q2' : B2 < 2 ^ (32 * K))
    (hR : R = Int.tdiv (A1 * (B2 : Int) + A2 * (B1 : Int)) (Nat.gcd (A1 * (B2 : Int) + A2 * (B1 : Int)).natAbs (B1 * B2) : Nat)) (hT2 : T = B1 * B2 / Nat.gcd (A1 * (B2 : Int) + A2 * (B1 : Int)).natAbs (B1 * B2)) :
    Calls Tryd.prog 9 #[.pointer (some ⟨pa, 0, none⟩), .pointer (some ⟨pb, 0, none⟩)] w (RetR w R T) := by
  have HA : Hid _ := HA
  have HB : Hid _ := HB
  have HC : Hid (∀ w bz bx b2 : _, bz < w.heap.size → bx < w.heap.size → b2 < w.heap.size → RatIs w bz 0 0 → RatIs w bx A1 B1 → RatIs w b2 A2 B2 → Calls Tryd.prog 10 #[.pointer (some ⟨bz, 0, none⟩), .pointer (some ⟨bx, 0, none⟩), .pointer (some ⟨b2, 0, none⟩)] w (NormTo w bz R T)) := by
    intro w bz bx b2 i1 i2 i3 i4 i5 i6
    rw [hR, hT2]
    exact addR_c w bz bx b2 0 0 A1 A2 B1 B2 K hK q1 q2 q1' q2' hB1 hB2 i1 i2 i3 i4 i5 i6
  clear hR hT2 q1 q1' q2 q2' hK
  go_enter Tryd.func9, Tryd.ntmps9
  go_wp2_with fail
  apply share
  · intro LX
    refine region_J 5 (G w) (by kernel_rfl) (by first | exact (G.refl _).drew | exact G.drew (by assumption)) ?_
    intro hSh
    refine wpAnyJ_take (i := 1) (v := ?_) rfl (by kernel_rfl) (by kernel_rfl) (by kernel_rfl) (by kernel_rfl) (by kernel_rfl) (by kernel_rfl) (by kernel_rfl) (fun _ _ _ h => h) (Or.inl ⟨by rfl, ?_⟩) (by assumption) ?_
    rotate_left
    · intro wq hwq
      have hq1 := G.cell (p := ⟨pa, 0, none⟩) (v := .float .f64 a) hwq (by first | assumption | (simp; done) | (simp; omega) | omega) (by assumption)
      have hq2 := G.cell (p := ⟨pb, 0, none⟩) (v := .float .f64 b) hwq (by first | assumption | (simp; done) | (simp; omega) | omega) (by assumption)
      first | (go_simp; done) | (go_simp; with_reducible rfl)
    try simp only [Act.put, List.setIfInBounds_toArray, List.set_cons_zero, List.set_cons_succ]
    refine wpAnyJ_take (i := 3) (v := ?_) rfl (by kernel_rfl) (by kernel_rfl) (by kernel_rfl) (by kernel_rfl) (by kernel_rfl) (by kernel_rfl) (by kernel_rfl) (fun _ _ _ h => h) (Or.inl ⟨by rfl, ?_⟩) (by assumption) ?_
    rotate_left
    · intro wq hwq
      have hq3 := G.cell (p := ⟨pa, 0, none⟩) (v := .float .f64 a) hwq (by first | assumption | (simp; done) | (simp; omega) | omega) (by assumption)
      have hq4 := G.cell (p := ⟨pb, 0, none⟩) (v := .float .f64 b) hwq (by first | assumption | (simp; done) | (simp; omega) | omega) (by assumption)
      first | (go_simp; done) | (go_simp; with_reducible rfl)
    try simp only [Act.put, List.setIfInBounds_toArray, List.set_cons_zero, List.set_cons_succ]
    show wpAnyJ _ _ _ _ _ _ _ _ _ w.drew
    have hS5 := hSh
    generalize w.drew = w5 at *
    clear hSh
    apply share
    · intro LSxyz
      apply share
      · intro LSxz
        refine wpAnyJ_two (i := 0) (j := 2) (by kernel_rfl) rfl rfl ?_ ?_
        · skip
          intro K hK
          go_simp
          refine hK.out _ _ (Or.inr (hS5.alloc _)) ?_
          clear hK K
          have hn := NR.new hS5 33
          have hal := (G.refl w5).alloc (.cells #[.bool false, .slice none 0 0, .bool false, .slice none 0 0] 33)
          have hS6 := G.trans hS5 hal
          generalize w5.heap.size = pz at *
          generalize w5.alloc (.cells #[.bool false, .slice none 0 0, .bool false, .slice none 0 0] 33) = w6 at *
          have HZ6 : Hid (NR w w6 pz 0 0) := hn
          clear hn hal
          refine wpAnyJ_next (i := 2) (by kernel_rfl) rfl ?_
          intro K hK
          go_simp
          go_wp2_with (go_at_call 11; refine Calls.mono (P := Tryd.prog) (HA.out w6) ?_; intro e w7 hx; obtain ⟨px, rfl, hg, h71, h72, h73⟩ := hx)
          refine hK.out _ _ (Or.inr (G.trans hS6 hg)) ?_
          clear hK K
          have hS7 := G.trans hS6 hg
          have hsz := hS6.size
          have HX7 : Hid (NR w w7 px A1 (B1 : Int)) := NR.of (by omega) h72 h73 (by omega)
          have hneHZ : px ≠ pz := by have := HZ6.out.2.1; omega
          have HZ7 : Hid (NR w w7 pz 0 0) := HZ6.out.G hg
          have HNEHZHX : Hid (px ≠ pz) := hneHZ
          clear hg h71 h72 h73 hsz hS6 HZ6 hneHZ
          refine wpAnyJ_listed (l' := #[true, true, true, true, false, false, false]) (by kernel_rfl) ?_
          revert HNEHZHX
          revert HX7
          revert HZ7
          revert hS7
          revert px
          revert pz
          revert w7
          exact LSxz.out
        · skip
          intro K hK
          go_simp
          go_wp2_with (go_at_call 11; refine Calls.mono (P := Tryd.prog) (HA.out w5) ?_; intro e w6 hx; obtain ⟨px, rfl, hg, h71, h72, h73⟩ := hx)
          refine hK.out _ _ (Or.inr (G.trans hS5 hg)) ?_
          clear hK K
          have hS6 := G.trans hS5 hg
          have hsz := hS5.size
          have HX6 : Hid (NR w w6 px A1 (B1 : Int)) := NR.of (by omega) h72 h73 (by omega)
          clear hg h71 h72 h73 hsz
          refine wpAnyJ_two (i := 0) (j := 4) (by kernel_rfl) rfl rfl ?_ ?_
          · skip
            intro K hK
            go_simp
            refine hK.out _ _ (Or.inr (hS6.alloc _)) ?_
            clear hK K
            have hn := NR.new hS6 33
            have hal := (G.refl w6).alloc (.cells #[.bool false, .slice none 0 0, .bool false, .slice none 0 0] 33)
            have hS7 := G.trans hS6 hal
            have HXt := HX6.out.G hal
            have hneHX : w6.heap.size ≠ px := by have := HX6.out.2.1; omega
            generalize w6.heap.size = pz at *
            generalize w6.alloc (.cells #[.bool false, .slice none 0 0, .bool false, .slice none 0 0] 33) = w7 at *
            have HZ7 : Hid (NR w w7 pz 0 0) := hn
            have HX7 : Hid (NR w w7 px A1 (B1 : Int)) := HXt
            have HNEHZHX : Hid (px ≠ pz) := hneHX.symm
            clear hn hal hS6 HX6 HXt hneHX
            refine wpAnyJ_listed (l' := #[true, true, true, true, false, false, false]) (by kernel_rfl) ?_
            revert HNEHZHX
            revert HX7
            revert HZ7
            revert hS7
            revert px
            revert pz
            revert w7
            exact LSxz.out
          · skip
            intro K hK
            go_simp
            go_wp2_with (go_at_call 11; refine Calls.mono (P := Tryd.prog) (HB.out w6) ?_; intro e w7 hx; obtain ⟨py, rfl, hg, h71, h72, h73⟩ := hx)
            refine hK.out _ _ (Or.inr (G.trans hS6 hg)) ?_
            clear hK K
            have hS7 := G.trans hS6 hg
            have hsz := hS6.size
            have HY7 : Hid (NR w w7 py A2 (B2 : Int)) := NR.of (by omega) h72 h73 (by omega)
            have HX7 : Hid (NR w w7 px A1 (B1 : Int)) := HX6.out.G hg
            clear hg h71 h72 h73 hsz hS6 HX6
            refine wpAnyJ_next (i := 0) (by kernel_rfl) rfl ?_
            intro K hK
            go_simp
            refine hK.out _ _ (Or.inr (hS7.alloc _)) ?_
            clear hK K
            have hn := NR.new hS7 33
            have hal := (G.refl w7).alloc (.cells #[.bool false, .slice none 0 0, .bool false, .slice none 0 0] 33)
            have hS8 := G.trans hS7 hal
            have HXt := HX7.out.G hal
            have HYt := HY7.out.G hal
            have hneHX : w7.heap.size ≠ px := by have := HX7.out.2.1; omega
            have hneHY : w7.heap.size ≠ py := by have := HY7.out.2.1; omega
            generalize w7.heap.size = pz at *
            generalize w7.alloc (.cells #[.bool false, .slice none 0 0, .bool false, .slice none 0 0] 33) = w8 at *
            have HZ8 : Hid (NR w w8 pz 0 0) := hn
            have HX8 : Hid (NR w w8 px A1 (B1 : Int)) := HXt
            have HY8 : Hid (NR w w8 py A2 (B2 : Int)) := HYt
            have HNEHZHX : Hid (px ≠ pz) := hneHX.symm
            have HNEHZHY : Hid (py ≠ pz) := hneHY.symm
            clear hn hal hS7 HX7 HY7 HXt HYt hneHX hneHY
            refine wpAnyJ_listed (l' := #[true, true, true, true, true, false, false]) (by kernel_rfl) ?_
            revert HNEHZHY
            revert HNEHZHX
            revert HY8
            revert HX8
            revert HZ8
            revert hS8
            revert py
            revert px
            revert pz
            revert w8
            exact LSxyz.out
      · skip
        refine Later.mk ?_
        intro w7 pz px hS7 HZ7 HX7 HNEHZHX
        refine wpAnyJ_next (i := 4) (by kernel_rfl) rfl ?_
        intro K hK
        go_simp
        go_wp2_with (go_at_call 11; refine Calls.mono (P := Tryd.prog) (HB.out w7) ?_; intro e w8 hx; obtain ⟨py, rfl, hg, h71, h72, h73⟩ := hx)
        refine hK.out _ _ (Or.inr (G.trans hS7 hg)) ?_
        clear hK K
        have hS8 := G.trans hS7 hg
        have hsz := hS7.size
        have HY8 : Hid (NR w w8 py A2 (B2 : Int)) := NR.of (by omega) h72 h73 (by omega)
        have hneHZ : py ≠ pz := by have := HZ7.out.2.1; omega
        have HZ8 : Hid (NR w w8 pz 0 0) := HZ7.out.G hg
        have HX8 : Hid (NR w w8 px A1 (B1 : Int)) := HX7.out.G hg
        have HNEHZHY : Hid (py ≠ pz) := hneHZ
        clear hg h71 h72 h73 hsz hS7 HZ7 HX7 hneHZ
        refine wpAnyJ_listed (l' := #[true, true, true, true, true, false, false]) (by kernel_rfl) ?_
        revert HNEHZHY
        revert HNEHZHX
        revert HY8
        revert HX8
        revert HZ8
        revert hS8
        revert py
        revert px
        revert pz
        revert w8
        exact LSxyz.out
    · skip
      refine Later.mk ?_
      intro w8 pz px py hS8 HZ8 HX8 HY8 HNEHZHX HNEHZHY
      refine wpAnyJ_next (i := 5) (by kernel_rfl) rfl ?_
      intro K hK
      go_simp
      have HCW : Hid _ := HC.out w8 pz px py HZ8.out.2.1 HX8.out.2.1 HY8.out.2.1 HZ8.out.2.2.1 HX8.out.2.2.1 HY8.out.2.2.1
      go_wp2_with (go_at_call 10; refine Calls.mono (P := Tryd.prog) HCW.out ?_; intro e w9 hx; obtain ⟨rfl, hS9, hl, -, hkp⟩ := NormTo.step hS8 HZ8.out hx (by assumption))
      have HZ9 : Hid (NR w w9 pz R (T : Int)) := hl
      have HX9 : Hid (NR w w9 px A1 (B1 : Int)) := hkp px A1 (B1 : Int) HNEHZHX.out HX8.out
      have HY9 : Hid (NR w w9 py A2 (B2 : Int)) := hkp py A2 (B2 : Int) HNEHZHY.out HY8.out
      refine hK.out _ _ (Or.inl (by decide)) ?_
      clear hK K hx hl hkp HCW hS8 HZ8 HX8 HY8
      refine wpAnyJ_next (i := 6) (by kernel_rfl) rfl ?_
      intro K hK
      go_simp
      refine hK.out _ _ (Or.inl (by decide)) ?_
      clear hK K
      refine wpAnyJ_done (by kernel_rfl) ?_ _
      revert HNEHZHY
      revert HNEHZHX
      revert HY9
      revert HX9
      revert HZ9
      revert hS9
      revert py
      revert px
      revert pz
      revert w9
      exact LX.out
  · skip
    refine Later.mk ?_
    intro w9 pz px py hS9 HZ9 HX9 HY9 HNEHZHX HNEHZHY
    go_wp2_with fail
    go_ret
    exact ⟨pz, rfl, hS9, HZ9.out.1, HZ9.out.2.1, HZ9.out.2.2.1⟩

set_option maxRecDepth 10000 in
set_option maxHeartbeats 8000000 in
theorem clo_2 (w : World) (pa pb a b K : Nat) (A1 A2 R : Int) (B1 B2 T : Nat) (hB1 : 0 < B1) (hB2 : 0 < B2) (hT : 0 < T) (ca : w.cell? ⟨pa, 0, none⟩ = some (.float .f64 a)) (cb : w.cell? ⟨pb, 0, none⟩ = some (.float .f64 b)) (hpa : pa < w.heap.size) (hpb : pb < w.heap.size)
    (HA : ∀ w, Calls Tryd.prog 11 #[.float .f64 a] w (RetR w A1 B1)) (HB : ∀ w, Calls Tryd.prog 11 #[.float .f64 b] w (RetR w A2 B2)) (hK : K ≤ 100000)
    (q1 : A1.natAbs < 2 ^ (32 * K)) (q1' : B1 < 2 ^ (32 * K)) (q2 : A2.natAbs < 2 ^ (32 * K)) (q2' : B2 < 2 ^ (32 * K))
    (hR : R = Int.tdiv (A1 * A2) (Nat.gcd (A1 * A2).natAbs (B1 * B2) : Nat)) (hT2 : T = B1 * B2 / Nat.gcd (A1 * A2).natAbs (B1 * B2)) :
    Calls Tryd.prog 13 #[.pointer (some ⟨pa, 0, none⟩), .pointer (some ⟨pb, 0, none⟩)] w (RetR w R T) := by
  have HA : Hid _ := HA
  have HB : Hid _ := HB
  have HC : Hid (∀ w bz bx b2 : _, bz < w.heap.size → bx < w.heap.size → b2 < w.heap.size → RatIs w bz 0 0 → RatIs w bx A1 B1 → RatIs w b2 A2 B2 → Calls Tryd.prog 14 #[.pointer (some ⟨bz, 0, none⟩), .pointer (some ⟨bx, 0, none⟩), .pointer (some ⟨b2, 0, none⟩)] w (NormTo w bz R T)) := by
    intro w bz bx b2 i1 i2 i3 i4 i5 i6
    rw [hR, hT2]
    exact mulR_c w bz bx b2 0 0 A1 A2 B1 B2 K hK q1 q2 q1' q2' hB1 hB2 i1 i2 i3 i4 i5 i6
  clear hR hT2 q1 q1' q2 q2' hK
  go_enter Tryd.func13, Tryd.ntmps13
  go_wp2_with fail
  apply share
  · intro LX
    refine region_J 5 (G w) (by kernel_rfl) (by first | exact (G.refl _).drew | exact G.drew (by assumption)) ?_
    intro hSh
    refine wpAnyJ_take (i := 1) (v := ?_) rfl (by kernel_rfl) (by kernel_rfl) (by kernel_rfl) (by kernel_rfl) (by kernel_rfl) (by kernel_rfl) (by kernel_rfl) (fun _ _ _ h => h) (Or.inl ⟨by rfl, ?_⟩) (by assumption) ?_
    rotate_left
    · intro wq hwq
      have hq5 := G.cell (p := ⟨pa, 0, none⟩) (v := .float .f64 a) hwq (by first | assumption | (simp; done) | (simp; omega) | omega) (by assumption)
      have hq6 := G.cell (p := ⟨pb, 0, none⟩) (v := .float .f64 b) hwq (by first | assumption | (simp; done) | (simp; omega) | omega) (by assumption)
      first | (go_simp; done) | (go_simp; with_reducible rfl)
    try simp only [Act.put, List.setIfInBounds_toArray, List.set_cons_zero, List.set_cons_succ]
    refine wpAnyJ_take (i := 3) (v := ?_) rfl (by kernel_rfl) (by kernel_rfl) (by kernel_rfl) (by kernel_rfl) (by kernel_rfl) (by kernel_rfl) (by kernel_rfl) (fun _ _ _ h => h) (Or.inl ⟨by rfl, ?_⟩) (by assumption) ?_
    rotate_left
    · intro wq hwq
      have hq7 := G.cell (p := ⟨pa, 0, none⟩) (v := .float .f64 a) hwq (by first | assumption | (simp; done) | (simp; omega) | omega) (by assumption)
      have hq8 := G.cell (p := ⟨pb, 0, none⟩) (v := .float .f64 b) hwq (by first | assumption | (simp; done) | (simp; omega) | omega) (by assumption)
      first | (go_simp; done) | (go_simp; with_reducible rfl)
    try simp only [Act.put, List.setIfInBounds_toArray, List.set_cons_zero, List.set_cons_succ]
    show wpAnyJ _ _ _ _ _ _ _ _ _ w.drew
    have hS5 := hSh
    generalize w.drew = w5 at *
    clear hSh
    apply share
    · intro LSxyz
      apply share
      · intro LSxz
        refine wpAnyJ_two (i := 0) (j := 2) (by kernel_rfl) rfl rfl ?_ ?_
        · skip
          intro K hK
          go_simp
          refine hK.out _ _ (Or.inr (hS5.alloc _)) ?_
          clear hK K
          have hn := NR.new hS5 33
          have hal := (G.refl w5).alloc (.cells #[.bool false, .slice none 0 0, .bool false, .slice none 0 0] 33)
          have hS6 := G.trans hS5 hal
          generalize w5.heap.size = pz at *
          generalize w5.alloc (.cells #[.bool false, .slice none 0 0, .bool false, .slice none 0 0] 33) = w6 at *
          have HZ6 : Hid (NR w w6 pz 0 0) := hn
          clear hn hal
          refine wpAnyJ_next (i := 2) (by kernel_rfl) rfl ?_
          intro K hK
          go_simp
          go_wp2_with (go_at_call 11; refine Calls.mono (P := Tryd.prog) (HA.out w6) ?_; intro e w7 hx; obtain ⟨px, rfl, hg, h71, h72, h73⟩ := hx)
          refine hK.out _ _ (Or.inr (G.trans hS6 hg)) ?_
          clear hK K
          have hS7 := G.trans hS6 hg
          have hsz := hS6.size
          have HX7 : Hid (NR w w7 px A1 (B1 : Int)) := NR.of (by omega) h72 h73 (by omega)
          have hneHZ : px ≠ pz := by have := HZ6.out.2.1; omega
          have HZ7 : Hid (NR w w7 pz 0 0) := HZ6.out.G hg
          have HNEHZHX : Hid (px ≠ pz) := hneHZ
          clear hg h71 h72 h73 hsz hS6 HZ6 hneHZ
          refine wpAnyJ_listed (l' := #[true, true, true, true, false, false, false]) (by kernel_rfl) ?_
          revert HNEHZHX
          revert HX7
          revert HZ7
          revert hS7
          revert px
          revert pz
          revert w7
          exact LSxz.out
        · skip
          intro K hK
          go_simp
          go_wp2_with (go_at_call 11; refine Calls.mono (P := Tryd.prog) (HA.out w5) ?_; intro e w6 hx; obtain ⟨px, rfl, hg, h71, h72, h73⟩ := hx)
          refine hK.out _ _ (Or.inr (G.trans hS5 hg)) ?_
          clear hK K
          have hS6 := G.trans hS5 hg
          have hsz := hS5.size
          have HX6 : Hid (NR w w6 px A1 (B1 : Int)) := NR.of (by omega) h72 h73 (by omega)
          clear hg h71 h72 h73 hsz
          refine wpAnyJ_two (i := 0) (j := 4) (by kernel_rfl) rfl rfl ?_ ?_
          · skip
            intro K hK
            go_simp
            refine hK.out _ _ (Or.inr (hS6.alloc _)) ?_
            clear hK K
            have hn := NR.new hS6 33
            have hal := (G.refl w6).alloc (.cells #[.bool false, .slice none 0 0, .bool false, .slice none 0 0] 33)
            have hS7 := G.trans hS6 hal
            have HXt := HX6.out.G hal
            have hneHX : w6.heap.size ≠ px := by have := HX6.out.2.1; omega
            generalize w6.heap.size = pz at *
            generalize w6.alloc (.cells #[.bool false, .slice none 0 0, .bool false, .slice none 0 0] 33) = w7 at *
            have HZ7 : Hid (NR w w7 pz 0 0) := hn
            have HX7 : Hid (NR w w7 px A1 (B1 : Int)) := HXt
            have HNEHZHX : Hid (px ≠ pz) := hneHX.symm
            clear hn hal hS6 HX6 HXt hneHX
            refine wpAnyJ_listed (l' := #[true, true, true, true, false, false, false]) (by kernel_rfl) ?_
            revert HNEHZHX
            revert HX7
            revert HZ7
            revert hS7
            revert px
            revert pz
            revert w7
            exact LSxz.out
          · skip
            intro K hK
            go_simp
            go_wp2_with (go_at_call 11; refine Calls.mono (P := Tryd.prog) (HB.out w6) ?_; intro e w7 hx; obtain ⟨py, rfl, hg, h71, h72, h73⟩ := hx)
            refine hK.out _ _ (Or.inr (G.trans hS6 hg)) ?_
            clear hK K
            have hS7 := G.trans hS6 hg
            have hsz := hS6.size
            have HY7 : Hid (NR w w7 py A2 (B2 : Int)) := NR.of (by omega) h72 h73 (by omega)
            have HX7 : Hid (NR w w7 px A1 (B1 : Int)) := HX6.out.G hg
            clear hg h71 h72 h73 hsz hS6 HX6
            refine wpAnyJ_next (i := 0) (by kernel_rfl) rfl ?_
            intro K hK
            go_simp
            refine hK.out _ _ (Or.inr (hS7.alloc _)) ?_
            clear hK K
            have hn := NR.new hS7 33
            have hal := (G.refl w7).alloc (.cells #[.bool false, .slice none 0 0, .bool false, .slice none 0 0] 33)
            have hS8 := G.trans hS7 hal
            have HXt := HX7.out.G hal
            have HYt := HY7.out.G hal
            have hneHX : w7.heap.size ≠ px := by have := HX7.out.2.1; omega
            have hneHY : w7.heap.size ≠ py := by have := HY7.out.2.1; omega
            generalize w7.heap.size = pz at *
            generalize w7.alloc (.cells #[.bool false, .slice none 0 0, .bool false, .slice none 0 0] 33) = w8 at *
            have HZ8 : Hid (NR w w8 pz 0 0) := hn
            have HX8 : Hid (NR w w8 px A1 (B1 : Int)) := HXt
            have HY8 : Hid (NR w w8 py A2 (B2 : Int)) := HYt
            have HNEHZHX : Hid (px ≠ pz) := hneHX.symm
            have HNEHZHY : Hid (py ≠ pz) := hneHY.symm
            clear hn hal hS7 HX7 HY7 HXt HYt hneHX hneHY
            refine wpAnyJ_listed (l' := #[true, true, true, true, true, false, false]) (by kernel_rfl) ?_
            revert HNEHZHY
            revert HNEHZHX
            revert HY8
            revert HX8
            revert HZ8
            revert hS8
            revert py
            revert px
            revert pz
            revert w8
            exact LSxyz.out
      · skip
        refine Later.mk ?_
        intro w7 pz px hS7 HZ7 HX7 HNEHZHX
        refine wpAnyJ_next (i := 4) (by kernel_rfl) rfl ?_
        intro K hK
        go_simp
        go_wp2_with (go_at_call 11; refine Calls.mono (P := Tryd.prog) (HB.out w7) ?_; intro e w8 hx; obtain ⟨py, rfl, hg, h71, h72, h73⟩ := hx)
        refine hK.out _ _ (Or.inr (G.trans hS7 hg)) ?_
        clear hK K
        have hS8 := G.trans hS7 hg
        have hsz := hS7.size
        have HY8 : Hid (NR w w8 py A2 (B2 : Int)) := NR.of (by omega) h72 h73 (by omega)
        have hneHZ : py ≠ pz := by have := HZ7.out.2.1; omega
        have HZ8 : Hid (NR w w8 pz 0 0) := HZ7.out.G hg
        have HX8 : Hid (NR w w8 px A1 (B1 : Int)) := HX7.out.G hg
        have HNEHZHY : Hid (py ≠ pz) := hneHZ
        clear hg h71 h72 h73 hsz hS7 HZ7 HX7 hneHZ
        refine wpAnyJ_listed (l' := #[true, true, true, true, true, false, false]) (by kernel_rfl) ?_
        revert HNEHZHY
        revert HNEHZHX
        revert HY8
        revert HX8
        revert HZ8
        revert hS8
        revert py
        revert px
        revert pz
        revert w8
        exact LSxyz.out
    · skip
      refine Later.mk ?_
      intro w8 pz px py hS8 HZ8 HX8 HY8 HNEHZHX HNEHZHY
      refine wpAnyJ_next (i := 5) (by kernel_rfl) rfl ?_
      intro K hK
      go_simp
      have HCW : Hid _ := HC.out w8 pz px py HZ8.out.2.1 HX8.out.2.1 HY8.out.2.1 HZ8.out.2.2.1 HX8.out.2.2.1 HY8.out.2.2.1
      go_wp2_with (go_at_call 14; refine Calls.mono (P := Tryd.prog) HCW.out ?_; intro e w9 hx; obtain ⟨rfl, hS9, hl, -, hkp⟩ := NormTo.step hS8 HZ8.out hx (by assumption))
      have HZ9 : Hid (NR w w9 pz R (T : Int)) := hl
      have HX9 : Hid (NR w w9 px A1 (B1 : Int)) := hkp px A1 (B1 : Int) HNEHZHX.out HX8.out
      have HY9 : Hid (NR w w9 py A2 (B2 : Int)) := hkp py A2 (B2 : Int) HNEHZHY.out HY8.out
      refine hK.out _ _ (Or.inl (by decide)) ?_
      clear hK K hx hl hkp HCW hS8 HZ8 HX8 HY8
      refine wpAnyJ_next (i := 6) (by kernel_rfl) rfl ?_
      intro K hK
      go_simp
      refine hK.out _ _ (Or.inl (by decide)) ?_
      clear hK K
      refine wpAnyJ_done (by kernel_rfl) ?_ _
      revert HNEHZHY
      revert HNEHZHX
      revert HY9
      revert HX9
      revert HZ9
      revert hS9
      revert py
      revert px
      revert pz
      revert w9
      exact LX.out
  · skip
    refine Later.mk ?_
    intro w9 pz px py hS9 HZ9 HX9 HY9 HNEHZHX HNEHZHY
    go_wp2_with fail
    go_ret
    exact ⟨pz, rfl, hS9, HZ9.out.1, HZ9.out.2.1, HZ9.out.2.2.1⟩

set_option maxRecDepth 10000 in
set_option maxHeartbeats 8000000 in
theorem clo_4 (w : World) (pa pq pb a q b : Nat) (A1 A2 A3 P R V : Int) (B1 B2 B3 Q T W : Nat) (hB1 : 0 < B1) (hB2 : 0 < B2) (hB3 : 0 < B3) (hQ : 0 < Q) (hT : 0 < T)
    (ca : w.cell? ⟨pa, 0, none⟩ = some (.float .f64 a)) (cq : w.cell? ⟨pq, 0, none⟩ = some (.float .f64 q)) (cb : w.cell? ⟨pb, 0, none⟩ = some (.float .f64 b)) (hpa : pa < w.heap.size) (hpq : pq < w.heap.size) (hpb : pb < w.heap.size)
    (HA : ∀ w, Calls Tryd.prog 11 #[.float .f64 a] w (RetR w A1 B1)) (HQA : ∀ w, Calls Tryd.prog 11 #[.float .f64 q] w (RetR w A2 B2)) (HB : ∀ w, Calls Tryd.prog 11 #[.float .f64 b] w (RetR w A3 B3))
    (HC : ∀ w bz bx b2 : _, bz < w.heap.size → bx < w.heap.size → b2 < w.heap.size → RatIs w bz 0 0 → RatIs w bx A2 B2 → RatIs w b2 A3 B3 → Calls Tryd.prog 14 #[.pointer (some ⟨bz, 0, none⟩), .pointer (some ⟨bx, 0, none⟩), .pointer (some ⟨b2, 0, none⟩)] w (NormTo w bz P Q))
    (HD : ∀ w bz bx b2 : _, bz < w.heap.size → bx < w.heap.size → b2 < w.heap.size → RatIs w bz 0 0 → RatIs w bx A1 B1 → RatIs w b2 P Q → Calls Tryd.prog 18 #[.pointer (some ⟨bz, 0, none⟩), .pointer (some ⟨bx, 0, none⟩), .pointer (some ⟨b2, 0, none⟩)] w (NormTo w bz R T))
    (HE : ∀ w bz b2 : _, bz < w.heap.size → b2 < w.heap.size → RatIs w bz R T → RatIs w b2 A2 B2 → Calls Tryd.prog 10 #[.pointer (some ⟨bz, 0, none⟩), .pointer (some ⟨bz, 0, none⟩), .pointer (some ⟨b2, 0, none⟩)] w (NormTo w bz V W)) :
    Calls Tryd.prog 17 #[.pointer (some ⟨pa, 0, none⟩), .pointer (some ⟨pq, 0, none⟩), .pointer (some ⟨pb, 0, none⟩)] w (RetR w V W) := by
  have HA : Hid _ := HA
  have HB : Hid _ := HB
  have HQA : Hid _ := HQA
  have HC : Hid _ := HC
  have HD : Hid _ := HD
  have HE : Hid _ := HE
  go_enter Tryd.func17, Tryd.ntmps17
  go_wp2_with fail
  apply share
  · intro LX
    refine region_J 9 (G w) (by kernel_rfl) (by first | exact (G.refl _).drew | exact G.drew (by assumption)) ?_
    intro hSh
    refine wpAnyJ_take (i := 1) (v := ?_) rfl (by kernel_rfl) (by kernel_rfl) (by kernel_rfl) (by kernel_rfl) (by kernel_rfl) (by kernel_rfl) (by kernel_rfl) (fun _ _ _ h => h) (Or.inl ⟨by rfl, ?_⟩) (by assumption) ?_
    rotate_left
    · intro wq hwq
      have hq9 := G.cell (p := ⟨pa, 0, none⟩) (v := .float .f64 a) hwq (by first | assumption | (simp; done) | (simp; omega) | omega) (by assumption)
      have hq10 := G.cell (p := ⟨pq, 0, none⟩) (v := .float .f64 q) hwq (by first | assumption | (simp; done) | (simp; omega) | omega) (by assumption)
      have hq11 := G.cell (p := ⟨pb, 0, none⟩) (v := .float .f64 b) hwq (by first | assumption | (simp; done) | (simp; omega) | omega) (by assumption)
      first | (go_simp; done) | (go_simp; with_reducible rfl)
    try simp only [Act.put, List.setIfInBounds_toArray, List.set_cons_zero, List.set_cons_succ]
    refine wpAnyJ_take (i := 4) (v := ?_) rfl (by kernel_rfl) (by kernel_rfl) (by kernel_rfl) (by kernel_rfl) (by kernel_rfl) (by kernel_rfl) (by kernel_rfl) (fun _ _ _ h => h) (Or.inl ⟨by rfl, ?_⟩) (by assumption) ?_
    rotate_left
    · intro wq hwq
      have hq12 := G.cell (p := ⟨pa, 0, none⟩) (v := .float .f64 a) hwq (by first | assumption | (simp; done) | (simp; omega) | omega) (by assumption)
      have hq13 := G.cell (p := ⟨pq, 0, none⟩) (v := .float .f64 q) hwq (by first | assumption | (simp; done) | (simp; omega) | omega) (by assumption)
      have hq14 := G.cell (p := ⟨pb, 0, none⟩) (v := .float .f64 b) hwq (by first | assumption | (simp; done) | (simp; omega) | omega) (by assumption)
      first | (go_simp; done) | (go_simp; with_reducible rfl)
    try simp only [Act.put, List.setIfInBounds_toArray, List.set_cons_zero, List.set_cons_succ]
    refine wpAnyJ_take (i := 6) (v := ?_) rfl (by kernel_rfl) (by kernel_rfl) (by kernel_rfl) (by kernel_rfl) (by kernel_rfl) (by kernel_rfl) (by kernel_rfl) (fun _ _ _ h => h) (Or.inl ⟨by rfl, ?_⟩) (by assumption) ?_
    rotate_left
    · intro wq hwq
      have hq15 := G.cell (p := ⟨pa, 0, none⟩) (v := .float .f64 a) hwq (by first | assumption | (simp; done) | (simp; omega) | omega) (by assumption)
      have hq16 := G.cell (p := ⟨pq, 0, none⟩) (v := .float .f64 q) hwq (by first | assumption | (simp; done) | (simp; omega) | omega) (by assumption)
      have hq17 := G.cell (p := ⟨pb, 0, none⟩) (v := .float .f64 b) hwq (by first | assumption | (simp; done) | (simp; omega) | omega) (by assumption)
      first | (go_simp; done) | (go_simp; with_reducible rfl)
    try simp only [Act.put, List.setIfInBounds_toArray, List.set_cons_zero, List.set_cons_succ]
    show wpAnyJ _ _ _ _ _ _ _ _ _ w.drew
    have hS5 := hSh
    generalize w.drew = w5 at *
    clear hSh
    apply share
    · intro LSmquxyz
      apply share
      · intro LSmqxyz
        apply share
        · intro LSmqxy
          apply share
          · intro LSmqxz
            apply share
            · intro LSqxyz
              apply share
              · intro LSmqx
                apply share
                · intro LSmxz
                  apply share
                  · intro LSqxz
                    apply share
                    · intro LSmx
                      apply share
                      · intro LSmz
                        apply share
                        · intro LSxz
                          refine wpAnyJ_three (i := 0) (j := 2) (l := 3) (by kernel_rfl) rfl rfl rfl ?_ ?_ ?_
                          · skip
                            intro K hK
                            go_simp
                            refine hK.out _ _ (Or.inr (hS5.alloc _)) ?_
                            clear hK K
                            have hn := NR.new hS5 33
                            have hal := (G.refl w5).alloc (.cells #[.bool false, .slice none 0 0, .bool false, .slice none 0 0] 33)
                            have hS6 := G.trans hS5 hal
                            generalize w5.heap.size = pz at *
                            generalize w5.alloc (.cells #[.bool false, .slice none 0 0, .bool false, .slice none 0 0] 33) = w6 at *
                            have HZ6 : Hid (NR w w6 pz 0 0) := hn
                            clear hn hal
                            refine wpAnyJ_two (i := 2) (j := 3) (by kernel_rfl) rfl rfl ?_ ?_
                            · skip
                              intro K hK
                              go_simp
                              go_wp2_with (go_at_call 11; refine Calls.mono (P := Tryd.prog) (HA.out w6) ?_; intro e w7 hx; obtain ⟨px, rfl, hg, h71, h72, h73⟩ := hx)
                              refine hK.out _ _ (Or.inr (G.trans hS6 hg)) ?_
                              clear hK K
                              have hS7 := G.trans hS6 hg
                              have hsz := hS6.size
                              have HX7 : Hid (NR w w7 px A1 (B1 : Int)) := NR.of (by omega) h72 h73 (by omega)
                              have hneHZ : px ≠ pz := by have := HZ6.out.2.1; omega
                              have HZ7 : Hid (NR w w7 pz 0 0) := HZ6.out.G hg
                              have HNEHZHX : Hid (px ≠ pz) := hneHZ
                              clear hg h71 h72 h73 hsz hS6 HZ6 hneHZ
                              refine wpAnyJ_listed (l' := #[true, true, true, false, true, false, true, false, false, false, false]) (by kernel_rfl) ?_
                              revert HNEHZHX
                              revert HX7
                              revert HZ7
                              revert hS7
                              revert px
                              revert pz
                              revert w7
                              exact LSxz.out
                            · skip
                              intro K hK
                              go_simp
                              refine hK.out _ _ (Or.inr (hS6.alloc _)) ?_
                              clear hK K
                              have hn := NR.new hS6 33
                              have hal := (G.refl w6).alloc (.cells #[.bool false, .slice none 0 0, .bool false, .slice none 0 0] 33)
                              have hS7 := G.trans hS6 hal
                              have HZt := HZ6.out.G hal
                              have hneHZ : w6.heap.size ≠ pz := by have := HZ6.out.2.1; omega
                              generalize w6.heap.size = pm at *
                              generalize w6.alloc (.cells #[.bool false, .slice none 0 0, .bool false, .slice none 0 0] 33) = w7 at *
                              have HM7 : Hid (NR w w7 pm 0 0) := hn
                              have HZ7 : Hid (NR w w7 pz 0 0) := HZt
                              have HNEHMHZ : Hid (pz ≠ pm) := hneHZ.symm
                              have HNEHZHM : Hid (pm ≠ pz) := hneHZ
                              clear hn hal hS6 HZ6 HZt hneHZ
                              refine wpAnyJ_listed (l' := #[true, true, false, true, true, false, true, false, false, false, false]) (by kernel_rfl) ?_
                              revert HNEHZHM
                              revert HNEHMHZ
                              revert HM7
                              revert HZ7
                              revert hS7
                              revert pm
                              revert pz
                              revert w7
                              exact LSmz.out
                          · skip
                            intro K hK
                            go_simp
                            go_wp2_with (go_at_call 11; refine Calls.mono (P := Tryd.prog) (HA.out w5) ?_; intro e w6 hx; obtain ⟨px, rfl, hg, h71, h72, h73⟩ := hx)
                            refine hK.out _ _ (Or.inr (G.trans hS5 hg)) ?_
                            clear hK K
                            have hS6 := G.trans hS5 hg
                            have hsz := hS5.size
                            have HX6 : Hid (NR w w6 px A1 (B1 : Int)) := NR.of (by omega) h72 h73 (by omega)
                            clear hg h71 h72 h73 hsz
                            refine wpAnyJ_three (i := 0) (j := 3) (l := 5) (by kernel_rfl) rfl rfl rfl ?_ ?_ ?_
                            · skip
                              intro K hK
                              go_simp
                              refine hK.out _ _ (Or.inr (hS6.alloc _)) ?_
                              clear hK K
                              have hn := NR.new hS6 33
                              have hal := (G.refl w6).alloc (.cells #[.bool false, .slice none 0 0, .bool false, .slice none 0 0] 33)
                              have hS7 := G.trans hS6 hal
                              have HXt := HX6.out.G hal
                              have hneHX : w6.heap.size ≠ px := by have := HX6.out.2.1; omega
                              generalize w6.heap.size = pz at *
                              generalize w6.alloc (.cells #[.bool false, .slice none 0 0, .bool false, .slice none 0 0] 33) = w7 at *
                              have HZ7 : Hid (NR w w7 pz 0 0) := hn
                              have HX7 : Hid (NR w w7 px A1 (B1 : Int)) := HXt
                              have HNEHZHX : Hid (px ≠ pz) := hneHX.symm
                              clear hn hal hS6 HX6 HXt hneHX
                              refine wpAnyJ_listed (l' := #[true, true, true, false, true, false, true, false, false, false, false]) (by kernel_rfl) ?_
                              revert HNEHZHX
                              revert HX7
                              revert HZ7
                              revert hS7
                              revert px
                              revert pz
                              revert w7
                              exact LSxz.out
                            · skip
                              intro K hK
                              go_simp
                              refine hK.out _ _ (Or.inr (hS6.alloc _)) ?_
                              clear hK K
                              have hn := NR.new hS6 33
                              have hal := (G.refl w6).alloc (.cells #[.bool false, .slice none 0 0, .bool false, .slice none 0 0] 33)
                              have hS7 := G.trans hS6 hal
                              have HXt := HX6.out.G hal
                              have hneHX : w6.heap.size ≠ px := by have := HX6.out.2.1; omega
                              generalize w6.heap.size = pm at *
                              generalize w6.alloc (.cells #[.bool false, .slice none 0 0, .bool false, .slice none 0 0] 33) = w7 at *
                              have HM7 : Hid (NR w w7 pm 0 0) := hn
                              have HX7 : Hid (NR w w7 px A1 (B1 : Int)) := HXt
                              have HNEHMHX : Hid (px ≠ pm) := hneHX.symm
                              clear hn hal hS6 HX6 HXt hneHX
                              refine wpAnyJ_listed (l' := #[false, true, true, true, true, false, true, false, false, false, false]) (by kernel_rfl) ?_
                              revert HNEHMHX
                              revert HM7
                              revert HX7
                              revert hS7
                              revert pm
                              revert px
                              revert w7
                              exact LSmx.out
                            · skip
                              intro K hK
                              go_simp
                              go_wp2_with (go_at_call 11; refine Calls.mono (P := Tryd.prog) (HQA.out w6) ?_; intro e w7 hx; obtain ⟨pq2, rfl, hg, h71, h72, h73⟩ := hx)
                              refine hK.out _ _ (Or.inr (G.trans hS6 hg)) ?_
                              clear hK K
                              have hS7 := G.trans hS6 hg
                              have hsz := hS6.size
                              have HQ7 : Hid (NR w w7 pq2 A2 (B2 : Int)) := NR.of (by omega) h72 h73 (by omega)
                              have HX7 : Hid (NR w w7 px A1 (B1 : Int)) := HX6.out.G hg
                              clear hg h71 h72 h73 hsz hS6 HX6
                              refine wpAnyJ_three (i := 0) (j := 3) (l := 7) (by kernel_rfl) rfl rfl rfl ?_ ?_ ?_
                              · skip
                                intro K hK
                                go_simp
                                refine hK.out _ _ (Or.inr (hS7.alloc _)) ?_
                                clear hK K
                                have hn := NR.new hS7 33
                                have hal := (G.refl w7).alloc (.cells #[.bool false, .slice none 0 0, .bool false, .slice none 0 0] 33)
                                have hS8 := G.trans hS7 hal
                                have HXt := HX7.out.G hal
                                have HQt := HQ7.out.G hal
                                have hneHX : w7.heap.size ≠ px := by have := HX7.out.2.1; omega
                                have hneHQ : w7.heap.size ≠ pq2 := by have := HQ7.out.2.1; omega
                                generalize w7.heap.size = pz at *
                                generalize w7.alloc (.cells #[.bool false, .slice none 0 0, .bool false, .slice none 0 0] 33) = w8 at *
                                have HZ8 : Hid (NR w w8 pz 0 0) := hn
                                have HX8 : Hid (NR w w8 px A1 (B1 : Int)) := HXt
                                have HQ8 : Hid (NR w w8 pq2 A2 (B2 : Int)) := HQt
                                have HNEHZHX : Hid (px ≠ pz) := hneHX.symm
                                have HNEHZHQ : Hid (pq2 ≠ pz) := hneHQ.symm
                                clear hn hal hS7 HX7 HQ7 HXt HQt hneHX hneHQ
                                refine wpAnyJ_listed (l' := #[true, true, true, false, true, true, true, false, false, false, false]) (by kernel_rfl) ?_
                                revert HNEHZHQ
                                revert HNEHZHX
                                revert HQ8
                                revert HX8
                                revert HZ8
                                revert hS8
                                revert pq2
                                revert px
                                revert pz
                                revert w8
                                exact LSqxz.out
                              · skip
                                intro K hK
                                go_simp
                                refine hK.out _ _ (Or.inr (hS7.alloc _)) ?_
                                clear hK K
                                have hn := NR.new hS7 33
                                have hal := (G.refl w7).alloc (.cells #[.bool false, .slice none 0 0, .bool false, .slice none 0 0] 33)
                                have hS8 := G.trans hS7 hal
                                have HXt := HX7.out.G hal
                                have HQt := HQ7.out.G hal
                                have hneHX : w7.heap.size ≠ px := by have := HX7.out.2.1; omega
                                have hneHQ : w7.heap.size ≠ pq2 := by have := HQ7.out.2.1; omega
                                generalize w7.heap.size = pm at *
                                generalize w7.alloc (.cells #[.bool false, .slice none 0 0, .bool false, .slice none 0 0] 33) = w8 at *
                                have HM8 : Hid (NR w w8 pm 0 0) := hn
                                have HX8 : Hid (NR w w8 px A1 (B1 : Int)) := HXt
                                have HQ8 : Hid (NR w w8 pq2 A2 (B2 : Int)) := HQt
                                have HNEHMHX : Hid (px ≠ pm) := hneHX.symm
                                have HNEHMHQ : Hid (pq2 ≠ pm) := hneHQ.symm
                                clear hn hal hS7 HX7 HQ7 HXt HQt hneHX hneHQ
                                refine wpAnyJ_listed (l' := #[false, true, true, true, true, true, true, false, false, false, false]) (by kernel_rfl) ?_
                                revert HNEHMHQ
                                revert HNEHMHX
                                revert HQ8
                                revert HM8
                                revert HX8
                                revert hS8
                                revert pq2
                                revert pm
                                revert px
                                revert w8
                                exact LSmqx.out
                              · skip
                                intro K hK
                                go_simp
                                go_wp2_with (go_at_call 11; refine Calls.mono (P := Tryd.prog) (HB.out w7) ?_; intro e w8 hx; obtain ⟨py, rfl, hg, h71, h72, h73⟩ := hx)
                                refine hK.out _ _ (Or.inr (G.trans hS7 hg)) ?_
                                clear hK K
                                have hS8 := G.trans hS7 hg
                                have hsz := hS7.size
                                have HY8 : Hid (NR w w8 py A3 (B3 : Int)) := NR.of (by omega) h72 h73 (by omega)
                                have HX8 : Hid (NR w w8 px A1 (B1 : Int)) := HX7.out.G hg
                                have HQ8 : Hid (NR w w8 pq2 A2 (B2 : Int)) := HQ7.out.G hg
                                clear hg h71 h72 h73 hsz hS7 HX7 HQ7
                                refine wpAnyJ_two (i := 0) (j := 3) (by kernel_rfl) rfl rfl ?_ ?_
                                · skip
                                  intro K hK
                                  go_simp
                                  refine hK.out _ _ (Or.inr (hS8.alloc _)) ?_
                                  clear hK K
                                  have hn := NR.new hS8 33
                                  have hal := (G.refl w8).alloc (.cells #[.bool false, .slice none 0 0, .bool false, .slice none 0 0] 33)
                                  have hS9 := G.trans hS8 hal
                                  have HXt := HX8.out.G hal
                                  have HQt := HQ8.out.G hal
                                  have HYt := HY8.out.G hal
                                  have hneHX : w8.heap.size ≠ px := by have := HX8.out.2.1; omega
                                  have hneHQ : w8.heap.size ≠ pq2 := by have := HQ8.out.2.1; omega
                                  have hneHY : w8.heap.size ≠ py := by have := HY8.out.2.1; omega
                                  generalize w8.heap.size = pz at *
                                  generalize w8.alloc (.cells #[.bool false, .slice none 0 0, .bool false, .slice none 0 0] 33) = w9 at *
                                  have HZ9 : Hid (NR w w9 pz 0 0) := hn
                                  have HX9 : Hid (NR w w9 px A1 (B1 : Int)) := HXt
                                  have HQ9 : Hid (NR w w9 pq2 A2 (B2 : Int)) := HQt
                                  have HY9 : Hid (NR w w9 py A3 (B3 : Int)) := HYt
                                  have HNEHZHX : Hid (px ≠ pz) := hneHX.symm
                                  have HNEHZHQ : Hid (pq2 ≠ pz) := hneHQ.symm
                                  have HNEHZHY : Hid (py ≠ pz) := hneHY.symm
                                  clear hn hal hS8 HX8 HQ8 HY8 HXt HQt HYt hneHX hneHQ hneHY
                                  refine wpAnyJ_listed (l' := #[true, true, true, false, true, true, true, true, false, false, false]) (by kernel_rfl) ?_
                                  revert HNEHZHY
                                  revert HNEHZHQ
                                  revert HNEHZHX
                                  revert HY9
                                  revert HQ9
                                  revert HX9
                                  revert HZ9
                                  revert hS9
                                  revert py
                                  revert pq2
                                  revert px
                                  revert pz
                                  revert w9
                                  exact LSqxyz.out
                                · skip
                                  intro K hK
                                  go_simp
                                  refine hK.out _ _ (Or.inr (hS8.alloc _)) ?_
                                  clear hK K
                                  have hn := NR.new hS8 33
                                  have hal := (G.refl w8).alloc (.cells #[.bool false, .slice none 0 0, .bool false, .slice none 0 0] 33)
                                  have hS9 := G.trans hS8 hal
                                  have HXt := HX8.out.G hal
                                  have HQt := HQ8.out.G hal
                                  have HYt := HY8.out.G hal
                                  have hneHX : w8.heap.size ≠ px := by have := HX8.out.2.1; omega
                                  have hneHQ : w8.heap.size ≠ pq2 := by have := HQ8.out.2.1; omega
                                  have hneHY : w8.heap.size ≠ py := by have := HY8.out.2.1; omega
                                  generalize w8.heap.size = pm at *
                                  generalize w8.alloc (.cells #[.bool false, .slice none 0 0, .bool false, .slice none 0 0] 33) = w9 at *
                                  have HM9 : Hid (NR w w9 pm 0 0) := hn
                                  have HX9 : Hid (NR w w9 px A1 (B1 : Int)) := HXt
                                  have HQ9 : Hid (NR w w9 pq2 A2 (B2 : Int)) := HQt
                                  have HY9 : Hid (NR w w9 py A3 (B3 : Int)) := HYt
                                  have HNEHMHX : Hid (px ≠ pm) := hneHX.symm
                                  have HNEHMHQ : Hid (pq2 ≠ pm) := hneHQ.symm
                                  have HNEHMHY : Hid (py ≠ pm) := hneHY.symm
                                  clear hn hal hS8 HX8 HQ8 HY8 HXt HQt HYt hneHX hneHQ hneHY
                                  refine wpAnyJ_listed (l' := #[false, true, true, true, true, true, true, true, false, false, false]) (by kernel_rfl) ?_
                                  revert HNEHMHY
                                  revert HNEHMHQ
                                  revert HNEHMHX
                                  revert HY9
                                  revert HQ9
                                  revert HM9
                                  revert HX9
                                  revert hS9
                                  revert py
                                  revert pq2
                                  revert pm
                                  revert px
                                  revert w9
                                  exact LSmqxy.out
                          · skip
                            intro K hK
                            go_simp
                            refine hK.out _ _ (Or.inr (hS5.alloc _)) ?_
                            clear hK K
                            have hn := NR.new hS5 33
                            have hal := (G.refl w5).alloc (.cells #[.bool false, .slice none 0 0, .bool false, .slice none 0 0] 33)
                            have hS6 := G.trans hS5 hal
                            generalize w5.heap.size = pm at *
                            generalize w5.alloc (.cells #[.bool false, .slice none 0 0, .bool false, .slice none 0 0] 33) = w6 at *
                            have HM6 : Hid (NR w w6 pm 0 0) := hn
                            clear hn hal
                            refine wpAnyJ_two (i := 0) (j := 2) (by kernel_rfl) rfl rfl ?_ ?_
                            · skip
                              intro K hK
                              go_simp
                              refine hK.out _ _ (Or.inr (hS6.alloc _)) ?_
                              clear hK K
                              have hn := NR.new hS6 33
                              have hal := (G.refl w6).alloc (.cells #[.bool false, .slice none 0 0, .bool false, .slice none 0 0] 33)
                              have hS7 := G.trans hS6 hal
                              have HMt := HM6.out.G hal
                              have hneHM : w6.heap.size ≠ pm := by have := HM6.out.2.1; omega
                              generalize w6.heap.size = pz at *
                              generalize w6.alloc (.cells #[.bool false, .slice none 0 0, .bool false, .slice none 0 0] 33) = w7 at *
                              have HZ7 : Hid (NR w w7 pz 0 0) := hn
                              have HM7 : Hid (NR w w7 pm 0 0) := HMt
                              have HNEHZHM : Hid (pm ≠ pz) := hneHM.symm
                              have HNEHMHZ : Hid (pz ≠ pm) := hneHM
                              clear hn hal hS6 HM6 HMt hneHM
                              refine wpAnyJ_listed (l' := #[true, true, false, true, true, false, true, false, false, false, false]) (by kernel_rfl) ?_
                              revert HNEHZHM
                              revert HNEHMHZ
                              revert HM7
                              revert HZ7
                              revert hS7
                              revert pm
                              revert pz
                              revert w7
                              exact LSmz.out
                            · skip
                              intro K hK
                              go_simp
                              go_wp2_with (go_at_call 11; refine Calls.mono (P := Tryd.prog) (HA.out w6) ?_; intro e w7 hx; obtain ⟨px, rfl, hg, h71, h72, h73⟩ := hx)
                              refine hK.out _ _ (Or.inr (G.trans hS6 hg)) ?_
                              clear hK K
                              have hS7 := G.trans hS6 hg
                              have hsz := hS6.size
                              have HX7 : Hid (NR w w7 px A1 (B1 : Int)) := NR.of (by omega) h72 h73 (by omega)
                              have hneHM : px ≠ pm := by have := HM6.out.2.1; omega
                              have HM7 : Hid (NR w w7 pm 0 0) := HM6.out.G hg
                              have HNEHMHX : Hid (px ≠ pm) := hneHM
                              clear hg h71 h72 h73 hsz hS6 HM6 hneHM
                              refine wpAnyJ_listed (l' := #[false, true, true, true, true, false, true, false, false, false, false]) (by kernel_rfl) ?_
                              revert HNEHMHX
                              revert HM7
                              revert HX7
                              revert hS7
                              revert pm
                              revert px
                              revert w7
                              exact LSmx.out
                        · skip
                          refine Later.mk ?_
                          intro w7 pz px hS7 HZ7 HX7 HNEHZHX
                          refine wpAnyJ_two (i := 3) (j := 5) (by kernel_rfl) rfl rfl ?_ ?_
                          · skip
                            intro K hK
                            go_simp
                            refine hK.out _ _ (Or.inr (hS7.alloc _)) ?_
                            clear hK K
                            have hn := NR.new hS7 33
                            have hal := (G.refl w7).alloc (.cells #[.bool false, .slice none 0 0, .bool false, .slice none 0 0] 33)
                            have hS8 := G.trans hS7 hal
                            have HZt := HZ7.out.G hal
                            have HXt := HX7.out.G hal
                            have hneHZ : w7.heap.size ≠ pz := by have := HZ7.out.2.1; omega
                            have hneHX : w7.heap.size ≠ px := by have := HX7.out.2.1; omega
                            generalize w7.heap.size = pm at *
                            generalize w7.alloc (.cells #[.bool false, .slice none 0 0, .bool false, .slice none 0 0] 33) = w8 at *
                            have HM8 : Hid (NR w w8 pm 0 0) := hn
                            have HZ8 : Hid (NR w w8 pz 0 0) := HZt
                            have HX8 : Hid (NR w w8 px A1 (B1 : Int)) := HXt
                            have HNEHMHZ : Hid (pz ≠ pm) := hneHZ.symm
                            have HNEHZHM : Hid (pm ≠ pz) := hneHZ
                            have HNEHMHX : Hid (px ≠ pm) := hneHX.symm
                            clear hn hal hS7 HZ7 HX7 HZt HXt hneHZ hneHX
                            refine wpAnyJ_listed (l' := #[true, true, true, true, true, false, true, false, false, false, false]) (by kernel_rfl) ?_
                            revert HNEHZHM
                            revert HNEHZHX
                            revert HNEHMHX
                            revert HNEHMHZ
                            revert HM8
                            revert HX8
                            revert HZ8
                            revert hS8
                            revert pm
                            revert px
                            revert pz
                            revert w8
                            exact LSmxz.out
                          · skip
                            intro K hK
                            go_simp
                            go_wp2_with (go_at_call 11; refine Calls.mono (P := Tryd.prog) (HQA.out w7) ?_; intro e w8 hx; obtain ⟨pq2, rfl, hg, h71, h72, h73⟩ := hx)
                            refine hK.out _ _ (Or.inr (G.trans hS7 hg)) ?_
                            clear hK K
                            have hS8 := G.trans hS7 hg
                            have hsz := hS7.size
                            have HQ8 : Hid (NR w w8 pq2 A2 (B2 : Int)) := NR.of (by omega) h72 h73 (by omega)
                            have hneHZ : pq2 ≠ pz := by have := HZ7.out.2.1; omega
                            have HZ8 : Hid (NR w w8 pz 0 0) := HZ7.out.G hg
                            have HX8 : Hid (NR w w8 px A1 (B1 : Int)) := HX7.out.G hg
                            have HNEHZHQ : Hid (pq2 ≠ pz) := hneHZ
                            clear hg h71 h72 h73 hsz hS7 HZ7 HX7 hneHZ
                            refine wpAnyJ_listed (l' := #[true, true, true, false, true, true, true, false, false, false, false]) (by kernel_rfl) ?_
                            revert HNEHZHQ
                            revert HNEHZHX
                            revert HQ8
                            revert HX8
                            revert HZ8
                            revert hS8
                            revert pq2
                            revert px
                            revert pz
                            revert w8
                            exact LSqxz.out
                      · skip
                        refine Later.mk ?_
                        intro w7 pz pm hS7 HZ7 HM7 HNEHMHZ HNEHZHM
                        refine wpAnyJ_next (i := 2) (by kernel_rfl) rfl ?_
                        intro K hK
                        go_simp
                        go_wp2_with (go_at_call 11; refine Calls.mono (P := Tryd.prog) (HA.out w7) ?_; intro e w8 hx; obtain ⟨px, rfl, hg, h71, h72, h73⟩ := hx)
                        refine hK.out _ _ (Or.inr (G.trans hS7 hg)) ?_
                        clear hK K
                        have hS8 := G.trans hS7 hg
                        have hsz := hS7.size
                        have HX8 : Hid (NR w w8 px A1 (B1 : Int)) := NR.of (by omega) h72 h73 (by omega)
                        have hneHZ : px ≠ pz := by have := HZ7.out.2.1; omega
                        have hneHM : px ≠ pm := by have := HM7.out.2.1; omega
                        have HZ8 : Hid (NR w w8 pz 0 0) := HZ7.out.G hg
                        have HM8 : Hid (NR w w8 pm 0 0) := HM7.out.G hg
                        have HNEHZHX : Hid (px ≠ pz) := hneHZ
                        have HNEHMHX : Hid (px ≠ pm) := hneHM
                        clear hg h71 h72 h73 hsz hS7 HZ7 HM7 hneHZ hneHM
                        refine wpAnyJ_listed (l' := #[true, true, true, true, true, false, true, false, false, false, false]) (by kernel_rfl) ?_
                        revert HNEHZHM
                        revert HNEHZHX
                        revert HNEHMHX
                        revert HNEHMHZ
                        revert HM8
                        revert HX8
                        revert HZ8
                        revert hS8
                        revert pm
                        revert px
                        revert pz
                        revert w8
                        exact LSmxz.out
                    · skip
                      refine Later.mk ?_
                      intro w7 px pm hS7 HX7 HM7 HNEHMHX
                      refine wpAnyJ_two (i := 0) (j := 5) (by kernel_rfl) rfl rfl ?_ ?_
                      · skip
                        intro K hK
                        go_simp
                        refine hK.out _ _ (Or.inr (hS7.alloc _)) ?_
                        clear hK K
                        have hn := NR.new hS7 33
                        have hal := (G.refl w7).alloc (.cells #[.bool false, .slice none 0 0, .bool false, .slice none 0 0] 33)
                        have hS8 := G.trans hS7 hal
                        have HXt := HX7.out.G hal
                        have HMt := HM7.out.G hal
                        have hneHX : w7.heap.size ≠ px := by have := HX7.out.2.1; omega
                        have hneHM : w7.heap.size ≠ pm := by have := HM7.out.2.1; omega
                        generalize w7.heap.size = pz at *
                        generalize w7.alloc (.cells #[.bool false, .slice none 0 0, .bool false, .slice none 0 0] 33) = w8 at *
                        have HZ8 : Hid (NR w w8 pz 0 0) := hn
                        have HX8 : Hid (NR w w8 px A1 (B1 : Int)) := HXt
                        have HM8 : Hid (NR w w8 pm 0 0) := HMt
                        have HNEHZHX : Hid (px ≠ pz) := hneHX.symm
                        have HNEHZHM : Hid (pm ≠ pz) := hneHM.symm
                        have HNEHMHZ : Hid (pz ≠ pm) := hneHM
                        clear hn hal hS7 HX7 HM7 HXt HMt hneHX hneHM
                        refine wpAnyJ_listed (l' := #[true, true, true, true, true, false, true, false, false, false, false]) (by kernel_rfl) ?_
                        revert HNEHZHM
                        revert HNEHZHX
                        revert HNEHMHX
                        revert HNEHMHZ
                        revert HM8
                        revert HX8
                        revert HZ8
                        revert hS8
                        revert pm
                        revert px
                        revert pz
                        revert w8
                        exact LSmxz.out
                      · skip
                        intro K hK
                        go_simp
                        go_wp2_with (go_at_call 11; refine Calls.mono (P := Tryd.prog) (HQA.out w7) ?_; intro e w8 hx; obtain ⟨pq2, rfl, hg, h71, h72, h73⟩ := hx)
                        refine hK.out _ _ (Or.inr (G.trans hS7 hg)) ?_
                        clear hK K
                        have hS8 := G.trans hS7 hg
                        have hsz := hS7.size
                        have HQ8 : Hid (NR w w8 pq2 A2 (B2 : Int)) := NR.of (by omega) h72 h73 (by omega)
                        have hneHM : pq2 ≠ pm := by have := HM7.out.2.1; omega
                        have HX8 : Hid (NR w w8 px A1 (B1 : Int)) := HX7.out.G hg
                        have HM8 : Hid (NR w w8 pm 0 0) := HM7.out.G hg
                        have HNEHMHQ : Hid (pq2 ≠ pm) := hneHM
                        clear hg h71 h72 h73 hsz hS7 HX7 HM7 hneHM
                        refine wpAnyJ_listed (l' := #[false, true, true, true, true, true, true, false, false, false, false]) (by kernel_rfl) ?_
                        revert HNEHMHQ
                        revert HNEHMHX
                        revert HQ8
                        revert HM8
                        revert HX8
                        revert hS8
                        revert pq2
                        revert pm
                        revert px
                        revert w8
                        exact LSmqx.out
                  · skip
                    refine Later.mk ?_
                    intro w8 pz px pq2 hS8 HZ8 HX8 HQ8 HNEHZHX HNEHZHQ
                    refine wpAnyJ_two (i := 3) (j := 7) (by kernel_rfl) rfl rfl ?_ ?_
                    · skip
                      intro K hK
                      go_simp
                      refine hK.out _ _ (Or.inr (hS8.alloc _)) ?_
                      clear hK K
                      have hn := NR.new hS8 33
                      have hal := (G.refl w8).alloc (.cells #[.bool false, .slice none 0 0, .bool false, .slice none 0 0] 33)
                      have hS9 := G.trans hS8 hal
                      have HZt := HZ8.out.G hal
                      have HXt := HX8.out.G hal
                      have HQt := HQ8.out.G hal
                      have hneHZ : w8.heap.size ≠ pz := by have := HZ8.out.2.1; omega
                      have hneHX : w8.heap.size ≠ px := by have := HX8.out.2.1; omega
                      have hneHQ : w8.heap.size ≠ pq2 := by have := HQ8.out.2.1; omega
                      generalize w8.heap.size = pm at *
                      generalize w8.alloc (.cells #[.bool false, .slice none 0 0, .bool false, .slice none 0 0] 33) = w9 at *
                      have HM9 : Hid (NR w w9 pm 0 0) := hn
                      have HZ9 : Hid (NR w w9 pz 0 0) := HZt
                      have HX9 : Hid (NR w w9 px A1 (B1 : Int)) := HXt
                      have HQ9 : Hid (NR w w9 pq2 A2 (B2 : Int)) := HQt
                      have HNEHMHZ : Hid (pz ≠ pm) := hneHZ.symm
                      have HNEHZHM : Hid (pm ≠ pz) := hneHZ
                      have HNEHMHX : Hid (px ≠ pm) := hneHX.symm
                      have HNEHMHQ : Hid (pq2 ≠ pm) := hneHQ.symm
                      clear hn hal hS8 HZ8 HX8 HQ8 HZt HXt HQt hneHZ hneHX hneHQ
                      refine wpAnyJ_listed (l' := #[true, true, true, true, true, true, true, false, false, false, false]) (by kernel_rfl) ?_
                      revert HNEHZHQ
                      revert HNEHZHM
                      revert HNEHZHX
                      revert HNEHMHQ
                      revert HNEHMHX
                      revert HNEHMHZ
                      revert HQ9
                      revert HM9
                      revert HX9
                      revert HZ9
                      revert hS9
                      revert pq2
                      revert pm
                      revert px
                      revert pz
                      revert w9
                      exact LSmqxz.out
                    · skip
                      intro K hK
                      go_simp
                      go_wp2_with (go_at_call 11; refine Calls.mono (P := Tryd.prog) (HB.out w8) ?_; intro e w9 hx; obtain ⟨py, rfl, hg, h71, h72, h73⟩ := hx)
                      refine hK.out _ _ (Or.inr (G.trans hS8 hg)) ?_
                      clear hK K
                      have hS9 := G.trans hS8 hg
                      have hsz := hS8.size
                      have HY9 : Hid (NR w w9 py A3 (B3 : Int)) := NR.of (by omega) h72 h73 (by omega)
                      have hneHZ : py ≠ pz := by have := HZ8.out.2.1; omega
                      have HZ9 : Hid (NR w w9 pz 0 0) := HZ8.out.G hg
                      have HX9 : Hid (NR w w9 px A1 (B1 : Int)) := HX8.out.G hg
                      have HQ9 : Hid (NR w w9 pq2 A2 (B2 : Int)) := HQ8.out.G hg
                      have HNEHZHY : Hid (py ≠ pz) := hneHZ
                      clear hg h71 h72 h73 hsz hS8 HZ8 HX8 HQ8 hneHZ
                      refine wpAnyJ_listed (l' := #[true, true, true, false, true, true, true, true, false, false, false]) (by kernel_rfl) ?_
                      revert HNEHZHY
                      revert HNEHZHQ
                      revert HNEHZHX
                      revert HY9
                      revert HQ9
                      revert HX9
                      revert HZ9
                      revert hS9
                      revert py
                      revert pq2
                      revert px
                      revert pz
                      revert w9
                      exact LSqxyz.out
                · skip
                  refine Later.mk ?_
                  intro w8 pz px pm hS8 HZ8 HX8 HM8 HNEHMHZ HNEHMHX HNEHZHX HNEHZHM
                  refine wpAnyJ_next (i := 5) (by kernel_rfl) rfl ?_
                  intro K hK
                  go_simp
                  go_wp2_with (go_at_call 11; refine Calls.mono (P := Tryd.prog) (HQA.out w8) ?_; intro e w9 hx; obtain ⟨pq2, rfl, hg, h71, h72, h73⟩ := hx)
                  refine hK.out _ _ (Or.inr (G.trans hS8 hg)) ?_
                  clear hK K
                  have hS9 := G.trans hS8 hg
                  have hsz := hS8.size
                  have HQ9 : Hid (NR w w9 pq2 A2 (B2 : Int)) := NR.of (by omega) h72 h73 (by omega)
                  have hneHZ : pq2 ≠ pz := by have := HZ8.out.2.1; omega
                  have hneHM : pq2 ≠ pm := by have := HM8.out.2.1; omega
                  have HZ9 : Hid (NR w w9 pz 0 0) := HZ8.out.G hg
                  have HX9 : Hid (NR w w9 px A1 (B1 : Int)) := HX8.out.G hg
                  have HM9 : Hid (NR w w9 pm 0 0) := HM8.out.G hg
                  have HNEHZHQ : Hid (pq2 ≠ pz) := hneHZ
                  have HNEHMHQ : Hid (pq2 ≠ pm) := hneHM
                  clear hg h71 h72 h73 hsz hS8 HZ8 HX8 HM8 hneHZ hneHM
                  refine wpAnyJ_listed (l' := #[true, true, true, true, true, true, true, false, false, false, false]) (by kernel_rfl) ?_
                  revert HNEHZHQ
                  revert HNEHZHM
                  revert HNEHZHX
                  revert HNEHMHQ
                  revert HNEHMHX
                  revert HNEHMHZ
                  revert HQ9
                  revert HM9
                  revert HX9
                  revert HZ9
                  revert hS9
                  revert pq2
                  revert pm
                  revert px
                  revert pz
                  revert w9
                  exact LSmqxz.out
              · skip
                refine Later.mk ?_
                intro w8 px pm pq2 hS8 HX8 HM8 HQ8 HNEHMHX HNEHMHQ
                refine wpAnyJ_two (i := 0) (j := 7) (by kernel_rfl) rfl rfl ?_ ?_
                · skip
                  intro K hK
                  go_simp
                  refine hK.out _ _ (Or.inr (hS8.alloc _)) ?_
                  clear hK K
                  have hn := NR.new hS8 33
                  have hal := (G.refl w8).alloc (.cells #[.bool false, .slice none 0 0, .bool false, .slice none 0 0] 33)
                  have hS9 := G.trans hS8 hal
                  have HXt := HX8.out.G hal
                  have HMt := HM8.out.G hal
                  have HQt := HQ8.out.G hal
                  have hneHX : w8.heap.size ≠ px := by have := HX8.out.2.1; omega
                  have hneHM : w8.heap.size ≠ pm := by have := HM8.out.2.1; omega
                  have hneHQ : w8.heap.size ≠ pq2 := by have := HQ8.out.2.1; omega
                  generalize w8.heap.size = pz at *
                  generalize w8.alloc (.cells #[.bool false, .slice none 0 0, .bool false, .slice none 0 0] 33) = w9 at *
                  have HZ9 : Hid (NR w w9 pz 0 0) := hn
                  have HX9 : Hid (NR w w9 px A1 (B1 : Int)) := HXt
                  have HM9 : Hid (NR w w9 pm 0 0) := HMt
                  have HQ9 : Hid (NR w w9 pq2 A2 (B2 : Int)) := HQt
                  have HNEHZHX : Hid (px ≠ pz) := hneHX.symm
                  have HNEHZHM : Hid (pm ≠ pz) := hneHM.symm
                  have HNEHMHZ : Hid (pz ≠ pm) := hneHM
                  have HNEHZHQ : Hid (pq2 ≠ pz) := hneHQ.symm
                  clear hn hal hS8 HX8 HM8 HQ8 HXt HMt HQt hneHX hneHM hneHQ
                  refine wpAnyJ_listed (l' := #[true, true, true, true, true, true, true, false, false, false, false]) (by kernel_rfl) ?_
                  revert HNEHZHQ
                  revert HNEHZHM
                  revert HNEHZHX
                  revert HNEHMHQ
                  revert HNEHMHX
                  revert HNEHMHZ
                  revert HQ9
                  revert HM9
                  revert HX9
                  revert HZ9
                  revert hS9
                  revert pq2
                  revert pm
                  revert px
                  revert pz
                  revert w9
                  exact LSmqxz.out
                · skip
                  intro K hK
                  go_simp
                  go_wp2_with (go_at_call 11; refine Calls.mono (P := Tryd.prog) (HB.out w8) ?_; intro e w9 hx; obtain ⟨py, rfl, hg, h71, h72, h73⟩ := hx)
                  refine hK.out _ _ (Or.inr (G.trans hS8 hg)) ?_
                  clear hK K
                  have hS9 := G.trans hS8 hg
                  have hsz := hS8.size
                  have HY9 : Hid (NR w w9 py A3 (B3 : Int)) := NR.of (by omega) h72 h73 (by omega)
                  have hneHM : py ≠ pm := by have := HM8.out.2.1; omega
                  have HX9 : Hid (NR w w9 px A1 (B1 : Int)) := HX8.out.G hg
                  have HM9 : Hid (NR w w9 pm 0 0) := HM8.out.G hg
                  have HQ9 : Hid (NR w w9 pq2 A2 (B2 : Int)) := HQ8.out.G hg
                  have HNEHMHY : Hid (py ≠ pm) := hneHM
                  clear hg h71 h72 h73 hsz hS8 HX8 HM8 HQ8 hneHM
                  refine wpAnyJ_listed (l' := #[false, true, true, true, true, true, true, true, false, false, false]) (by kernel_rfl) ?_
                  revert HNEHMHY
                  revert HNEHMHQ
                  revert HNEHMHX
                  revert HY9
                  revert HQ9
                  revert HM9
                  revert HX9
                  revert hS9
                  revert py
                  revert pq2
                  revert pm
                  revert px
                  revert w9
                  exact LSmqxy.out
            · skip
              refine Later.mk ?_
              intro w9 pz px pq2 py hS9 HZ9 HX9 HQ9 HY9 HNEHZHX HNEHZHQ HNEHZHY
              refine wpAnyJ_next (i := 3) (by kernel_rfl) rfl ?_
              intro K hK
              go_simp
              refine hK.out _ _ (Or.inr (hS9.alloc _)) ?_
              clear hK K
              have hn := NR.new hS9 33
              have hal := (G.refl w9).alloc (.cells #[.bool false, .slice none 0 0, .bool false, .slice none 0 0] 33)
              have hS10 := G.trans hS9 hal
              have HZt := HZ9.out.G hal
              have HXt := HX9.out.G hal
              have HQt := HQ9.out.G hal
              have HYt := HY9.out.G hal
              have hneHZ : w9.heap.size ≠ pz := by have := HZ9.out.2.1; omega
              have hneHX : w9.heap.size ≠ px := by have := HX9.out.2.1; omega
              have hneHQ : w9.heap.size ≠ pq2 := by have := HQ9.out.2.1; omega
              have hneHY : w9.heap.size ≠ py := by have := HY9.out.2.1; omega
              generalize w9.heap.size = pm at *
              generalize w9.alloc (.cells #[.bool false, .slice none 0 0, .bool false, .slice none 0 0] 33) = w10 at *
              have HM10 : Hid (NR w w10 pm 0 0) := hn
              have HZ10 : Hid (NR w w10 pz 0 0) := HZt
              have HX10 : Hid (NR w w10 px A1 (B1 : Int)) := HXt
              have HQ10 : Hid (NR w w10 pq2 A2 (B2 : Int)) := HQt
              have HY10 : Hid (NR w w10 py A3 (B3 : Int)) := HYt
              have HNEHMHZ : Hid (pz ≠ pm) := hneHZ.symm
              have HNEHZHM : Hid (pm ≠ pz) := hneHZ
              have HNEHMHX : Hid (px ≠ pm) := hneHX.symm
              have HNEHMHQ : Hid (pq2 ≠ pm) := hneHQ.symm
              have HNEHMHY : Hid (py ≠ pm) := hneHY.symm
              clear hn hal hS9 HZ9 HX9 HQ9 HY9 HZt HXt HQt HYt hneHZ hneHX hneHQ hneHY
              refine wpAnyJ_listed (l' := #[true, true, true, true, true, true, true, true, false, false, false]) (by kernel_rfl) ?_
              revert HNEHZHY
              revert HNEHZHQ
              revert HNEHZHM
              revert HNEHZHX
              revert HNEHMHY
              revert HNEHMHQ
              revert HNEHMHX
              revert HNEHMHZ
              revert HY10
              revert HQ10
              revert HM10
              revert HX10
              revert HZ10
              revert hS10
              revert py
              revert pq2
              revert pm
              revert px
              revert pz
              revert w10
              exact LSmqxyz.out
          · skip
            refine Later.mk ?_
            intro w9 pz px pm pq2 hS9 HZ9 HX9 HM9 HQ9 HNEHMHZ HNEHMHX HNEHMHQ HNEHZHX HNEHZHM HNEHZHQ
            refine wpAnyJ_next (i := 7) (by kernel_rfl) rfl ?_
            intro K hK
            go_simp
            go_wp2_with (go_at_call 11; refine Calls.mono (P := Tryd.prog) (HB.out w9) ?_; intro e w10 hx; obtain ⟨py, rfl, hg, h71, h72, h73⟩ := hx)
            refine hK.out _ _ (Or.inr (G.trans hS9 hg)) ?_
            clear hK K
            have hS10 := G.trans hS9 hg
            have hsz := hS9.size
            have HY10 : Hid (NR w w10 py A3 (B3 : Int)) := NR.of (by omega) h72 h73 (by omega)
            have hneHZ : py ≠ pz := by have := HZ9.out.2.1; omega
            have hneHM : py ≠ pm := by have := HM9.out.2.1; omega
            have HZ10 : Hid (NR w w10 pz 0 0) := HZ9.out.G hg
            have HX10 : Hid (NR w w10 px A1 (B1 : Int)) := HX9.out.G hg
            have HM10 : Hid (NR w w10 pm 0 0) := HM9.out.G hg
            have HQ10 : Hid (NR w w10 pq2 A2 (B2 : Int)) := HQ9.out.G hg
            have HNEHZHY : Hid (py ≠ pz) := hneHZ
            have HNEHMHY : Hid (py ≠ pm) := hneHM
            clear hg h71 h72 h73 hsz hS9 HZ9 HX9 HM9 HQ9 hneHZ hneHM
            refine wpAnyJ_listed (l' := #[true, true, true, true, true, true, true, true, false, false, false]) (by kernel_rfl) ?_
            revert HNEHZHY
            revert HNEHZHQ
            revert HNEHZHM
            revert HNEHZHX
            revert HNEHMHY
            revert HNEHMHQ
            revert HNEHMHX
            revert HNEHMHZ
            revert HY10
            revert HQ10
            revert HM10
            revert HX10
            revert HZ10
            revert hS10
            revert py
            revert pq2
            revert pm
            revert px
            revert pz
            revert w10
            exact LSmqxyz.out
        · skip
          refine Later.mk ?_
          intro w9 px pm pq2 py hS9 HX9 HM9 HQ9 HY9 HNEHMHX HNEHMHQ HNEHMHY
          refine wpAnyJ_two (i := 0) (j := 8) (by kernel_rfl) rfl rfl ?_ ?_
          · skip
            intro K hK
            go_simp
            refine hK.out _ _ (Or.inr (hS9.alloc _)) ?_
            clear hK K
            have hn := NR.new hS9 33
            have hal := (G.refl w9).alloc (.cells #[.bool false, .slice none 0 0, .bool false, .slice none 0 0] 33)
            have hS10 := G.trans hS9 hal
            have HXt := HX9.out.G hal
            have HMt := HM9.out.G hal
            have HQt := HQ9.out.G hal
            have HYt := HY9.out.G hal
            have hneHX : w9.heap.size ≠ px := by have := HX9.out.2.1; omega
            have hneHM : w9.heap.size ≠ pm := by have := HM9.out.2.1; omega
            have hneHQ : w9.heap.size ≠ pq2 := by have := HQ9.out.2.1; omega
            have hneHY : w9.heap.size ≠ py := by have := HY9.out.2.1; omega
            generalize w9.heap.size = pz at *
            generalize w9.alloc (.cells #[.bool false, .slice none 0 0, .bool false, .slice none 0 0] 33) = w10 at *
            have HZ10 : Hid (NR w w10 pz 0 0) := hn
            have HX10 : Hid (NR w w10 px A1 (B1 : Int)) := HXt
            have HM10 : Hid (NR w w10 pm 0 0) := HMt
            have HQ10 : Hid (NR w w10 pq2 A2 (B2 : Int)) := HQt
            have HY10 : Hid (NR w w10 py A3 (B3 : Int)) := HYt
            have HNEHZHX : Hid (px ≠ pz) := hneHX.symm
            have HNEHZHM : Hid (pm ≠ pz) := hneHM.symm
            have HNEHMHZ : Hid (pz ≠ pm) := hneHM
            have HNEHZHQ : Hid (pq2 ≠ pz) := hneHQ.symm
            have HNEHZHY : Hid (py ≠ pz) := hneHY.symm
            clear hn hal hS9 HX9 HM9 HQ9 HY9 HXt HMt HQt HYt hneHX hneHM hneHQ hneHY
            refine wpAnyJ_listed (l' := #[true, true, true, true, true, true, true, true, false, false, false]) (by kernel_rfl) ?_
            revert HNEHZHY
            revert HNEHZHQ
            revert HNEHZHM
            revert HNEHZHX
            revert HNEHMHY
            revert HNEHMHQ
            revert HNEHMHX
            revert HNEHMHZ
            revert HY10
            revert HQ10
            revert HM10
            revert HX10
            revert HZ10
            revert hS10
            revert py
            revert pq2
            revert pm
            revert px
            revert pz
            revert w10
            exact LSmqxyz.out
          · skip
            intro K hK
            go_simp
            have HCW : Hid _ := HC.out w9 pm pq2 py HM9.out.2.1 HQ9.out.2.1 HY9.out.2.1 HM9.out.2.2.1 HQ9.out.2.2.1 HY9.out.2.2.1
            go_wp2_with (go_at_call 14; refine Calls.mono (P := Tryd.prog) HCW.out ?_; intro e w10 hx; obtain ⟨rfl, hS10, hl, -, hkp⟩ := NormTo.step hS9 HM9.out hx (by assumption))
            have HM10 : Hid (NR w w10 pm P (Q : Int)) := hl
            have HX10 : Hid (NR w w10 px A1 (B1 : Int)) := hkp px A1 (B1 : Int) HNEHMHX.out HX9.out
            have HQ10 : Hid (NR w w10 pq2 A2 (B2 : Int)) := hkp pq2 A2 (B2 : Int) HNEHMHQ.out HQ9.out
            have HY10 : Hid (NR w w10 py A3 (B3 : Int)) := hkp py A3 (B3 : Int) HNEHMHY.out HY9.out
            refine hK.out _ _ (Or.inr hS10) ?_
            clear hK K hx hl hkp HCW hS9 HX9 HM9 HQ9 HY9
            refine wpAnyJ_next (i := 0) (by kernel_rfl) rfl ?_
            intro K hK
            go_simp
            refine hK.out _ _ (Or.inr (hS10.alloc _)) ?_
            clear hK K
            have hn := NR.new hS10 33
            have hal := (G.refl w10).alloc (.cells #[.bool false, .slice none 0 0, .bool false, .slice none 0 0] 33)
            have hS11 := G.trans hS10 hal
            have HXt := HX10.out.G hal
            have HMt := HM10.out.G hal
            have HQt := HQ10.out.G hal
            have HYt := HY10.out.G hal
            have hneHX : w10.heap.size ≠ px := by have := HX10.out.2.1; omega
            have hneHM : w10.heap.size ≠ pm := by have := HM10.out.2.1; omega
            have hneHQ : w10.heap.size ≠ pq2 := by have := HQ10.out.2.1; omega
            have hneHY : w10.heap.size ≠ py := by have := HY10.out.2.1; omega
            generalize w10.heap.size = pz at *
            generalize w10.alloc (.cells #[.bool false, .slice none 0 0, .bool false, .slice none 0 0] 33) = w11 at *
            have HZ11 : Hid (NR w w11 pz 0 0) := hn
            have HX11 : Hid (NR w w11 px A1 (B1 : Int)) := HXt
            have HM11 : Hid (NR w w11 pm P (Q : Int)) := HMt
            have HQ11 : Hid (NR w w11 pq2 A2 (B2 : Int)) := HQt
            have HY11 : Hid (NR w w11 py A3 (B3 : Int)) := HYt
            have HNEHZHX : Hid (px ≠ pz) := hneHX.symm
            have HNEHZHM : Hid (pm ≠ pz) := hneHM.symm
            have HNEHMHZ : Hid (pz ≠ pm) := hneHM
            have HNEHZHQ : Hid (pq2 ≠ pz) := hneHQ.symm
            have HNEHZHY : Hid (py ≠ pz) := hneHY.symm
            clear hn hal hS10 HX10 HM10 HQ10 HY10 HXt HMt HQt HYt hneHX hneHM hneHQ hneHY
            refine wpAnyJ_listed (l' := #[true, true, true, true, true, true, true, true, true, false, false]) (by kernel_rfl) ?_
            revert HNEHZHY
            revert HNEHZHQ
            revert HNEHZHM
            revert HNEHZHX
            revert HNEHMHY
            revert HNEHMHQ
            revert HNEHMHX
            revert HNEHMHZ
            revert HY11
            revert HQ11
            revert HM11
            revert HX11
            revert HZ11
            revert hS11
            revert py
            revert pq2
            revert pm
            revert px
            revert pz
            revert w11
            exact LSmquxyz.out
      · skip
        refine Later.mk ?_
        intro w10 pz px pm pq2 py hS10 HZ10 HX10 HM10 HQ10 HY10 HNEHMHZ HNEHMHX HNEHMHQ HNEHMHY HNEHZHX HNEHZHM HNEHZHQ HNEHZHY
        refine wpAnyJ_next (i := 8) (by kernel_rfl) rfl ?_
        intro K hK
        go_simp
        have HCW : Hid _ := HC.out w10 pm pq2 py HM10.out.2.1 HQ10.out.2.1 HY10.out.2.1 HM10.out.2.2.1 HQ10.out.2.2.1 HY10.out.2.2.1
        go_wp2_with (go_at_call 14; refine Calls.mono (P := Tryd.prog) HCW.out ?_; intro e w11 hx; obtain ⟨rfl, hS11, hl, -, hkp⟩ := NormTo.step hS10 HM10.out hx (by assumption))
        have HM11 : Hid (NR w w11 pm P (Q : Int)) := hl
        have HZ11 : Hid (NR w w11 pz 0 0) := hkp pz 0 0 HNEHMHZ.out HZ10.out
        have HX11 : Hid (NR w w11 px A1 (B1 : Int)) := hkp px A1 (B1 : Int) HNEHMHX.out HX10.out
        have HQ11 : Hid (NR w w11 pq2 A2 (B2 : Int)) := hkp pq2 A2 (B2 : Int) HNEHMHQ.out HQ10.out
        have HY11 : Hid (NR w w11 py A3 (B3 : Int)) := hkp py A3 (B3 : Int) HNEHMHY.out HY10.out
        refine hK.out _ _ (Or.inr hS11) ?_
        clear hK K hx hl hkp HCW hS10 HZ10 HX10 HM10 HQ10 HY10
        refine wpAnyJ_listed (l' := #[true, true, true, true, true, true, true, true, true, false, false]) (by kernel_rfl) ?_
        revert HNEHZHY
        revert HNEHZHQ
        revert HNEHZHM
        revert HNEHZHX
        revert HNEHMHY
        revert HNEHMHQ
        revert HNEHMHX
        revert HNEHMHZ
        revert HY11
        revert HQ11
        revert HM11
        revert HX11
        revert HZ11
        revert hS11
        revert py
        revert pq2
        revert pm
        revert px
        revert pz
        revert w11
        exact LSmquxyz.out
    · skip
      refine Later.mk ?_
      intro w11 pz px pm pq2 py hS11 HZ11 HX11 HM11 HQ11 HY11 HNEHMHZ HNEHMHX HNEHMHQ HNEHMHY HNEHZHX HNEHZHM HNEHZHQ HNEHZHY
      refine wpAnyJ_next (i := 9) (by kernel_rfl) rfl ?_
      intro K hK
      go_simp
      have HCW : Hid _ := HD.out w11 pz px pm HZ11.out.2.1 HX11.out.2.1 HM11.out.2.1 HZ11.out.2.2.1 HX11.out.2.2.1 HM11.out.2.2.1
      go_wp2_with (go_at_call 18; refine Calls.mono (P := Tryd.prog) HCW.out ?_; intro e w12 hx; obtain ⟨rfl, hS12, hl, -, hkp⟩ := NormTo.step hS11 HZ11.out hx (by assumption))
      have HZ12 : Hid (NR w w12 pz R (T : Int)) := hl
      have HX12 : Hid (NR w w12 px A1 (B1 : Int)) := hkp px A1 (B1 : Int) HNEHZHX.out HX11.out
      have HM12 : Hid (NR w w12 pm P (Q : Int)) := hkp pm P (Q : Int) HNEHZHM.out HM11.out
      have HQ12 : Hid (NR w w12 pq2 A2 (B2 : Int)) := hkp pq2 A2 (B2 : Int) HNEHZHQ.out HQ11.out
      have HY12 : Hid (NR w w12 py A3 (B3 : Int)) := hkp py A3 (B3 : Int) HNEHZHY.out HY11.out
      refine hK.out _ _ (Or.inl (by decide)) ?_
      clear hK K hx hl hkp HCW hS11 HZ11 HX11 HM11 HQ11 HY11
      refine wpAnyJ_next (i := 10) (by kernel_rfl) rfl ?_
      intro K hK
      go_simp
      refine hK.out _ _ (Or.inl (by decide)) ?_
      clear hK K
      refine wpAnyJ_done (by kernel_rfl) ?_ _
      revert HNEHZHY
      revert HNEHZHQ
      revert HNEHZHM
      revert HNEHZHX
      revert HNEHMHY
      revert HNEHMHQ
      revert HNEHMHX
      revert HNEHMHZ
      revert HY12
      revert HQ12
      revert HM12
      revert HX12
      revert HZ12
      revert hS12
      revert py
      revert pq2
      revert pm
      revert px
      revert pz
      revert w12
      exact LX.out
  · skip
    refine Later.mk ?_
    intro w12 pz px pm pq2 py hS12 HZ12 HX12 HM12 HQ12 HY12 HNEHMHZ HNEHMHX HNEHMHQ HNEHMHY HNEHZHX HNEHZHM HNEHZHQ HNEHZHY
    have cqn := G.cell hS12 hpq cq
    have hsz := hS12.size
    clear ca cq cb hpa hpb HA HB HC HD
    go_wp2_with fail
    refine Calls.mono (P := Tryd.prog) (HQA.out _) ?_
    intro e v1 hs
    obtain ⟨p9, rfl, g9, p9a, p9b, r9⟩ := hs
    have hz9 := HZ12.out.G g9
    have G9 := G.trans hS12 g9
    have HE9 : Hid _ := HE.out v1 pz p9 hz9.2.1 p9b hz9.2.2.1 r9
    have hz1 := HZ12.out.1
    clear hS12 HZ12 HX12 HM12 HQ12 HY12 g9 p9a p9b r9 HE HQA
    go_wp2_with fail
    refine Calls.mono (P := Tryd.prog) HE9.out ?_
    intro e v2 hs
    obtain ⟨p, rfl, k1, k2, k3, k4⟩ := NormTo.ret G9 hz1 hz9.2.1 hs
    have HK4 : Hid (RatIs v2 p V (W : Int)) := k4
    clear hs k4 HE9
    go_wp2_with fail
    go_ret
    exact ⟨p, rfl, k1, k2, k3, HK4.out⟩

theorem clo_3 (w : World) (pa q b : Nat) :
    Calls Tryd.prog 16 #[.float .f64 q, .float .f64 b, .pointer (some ⟨pa, 0, none⟩)] w fun e w' => ∃ pq pb, e = .returned (.func (.func 17) #[] #[.pointer (some ⟨pa, 0, none⟩), .pointer (some ⟨pq, 0, none⟩), .pointer (some ⟨pb, 0, none⟩)]) ∧
      G w w' ∧ pq < w'.heap.size ∧ pb < w'.heap.size ∧ w'.cell? ⟨pq, 0, none⟩ = some (.float .f64 q) ∧ w'.cell? ⟨pb, 0, none⟩ = some (.float .f64 b) := by
  have hg0 := ((G.refl w).alloc (.cells #[.float .f64 q] 22)).alloc (.cells #[.float .f64 b] 22)
  have ca0 : ((w.alloc (.cells #[.float .f64 q] 22)).alloc (.cells #[.float .f64 b] 22)).cell? ⟨w.heap.size, 0, none⟩ = some (.float .f64 q) := by simp
  have cb0 : ((w.alloc (.cells #[.float .f64 q] 22)).alloc (.cells #[.float .f64 b] 22)).cell? ⟨w.heap.size + 1, 0, none⟩ = some (.float .f64 b) := by
    rw [World.cell?_alloc_at _ _ _ _ (by simp)]; rfl
  have hsa0 : w.heap.size < ((w.alloc (.cells #[.float .f64 q] 22)).alloc (.cells #[.float .f64 b] 22)).heap.size := by simp; omega
  have hsb0 : w.heap.size + 1 < ((w.alloc (.cells #[.float .f64 q] 22)).alloc (.cells #[.float .f64 b] 22)).heap.size := by simp
  have H1 : Hid _ := ca0
  have H2 : Hid _ := cb0
  clear ca0 cb0
  go_enter Tryd.func16, Tryd.ntmps16
  go_wp2_with fail
  go_ret
  exact ⟨_, _, rfl, hg0, hsa0, hsb0, H1.out, H2.out⟩
end Go.Proofs.YtkelfdhpekkiaacDoor
namespace Go.Proofs.YtkelfdhpekkiaacDoor
open Go.ChangeShapes Go.WideShapes Go.ChangeAt Go.RowKit
open BN
open EA (Z Low Is RnZ Rp top)

/-- The law's own places of a and b. -/
def Two (w : World) (pa pb a b : Nat) : Prop := pa < w.heap.size ∧ pb < w.heap.size ∧ w.cell? ⟨pa, 0, none⟩ = some (.float .f64 a) ∧ w.cell? ⟨pb, 0, none⟩ = some (.float .f64 b)
theorem Two.G {w w' : World} {pa pb a b : Nat} (h : Two w pa pb a b) (g : G w w') : Two w' pa pb a b := ⟨G.lt g h.1, G.lt g h.2.1, G.cell g h.1 h.2.2.1, G.cell g h.2.1 h.2.2.2⟩
def True3 (w : World) (e : Ending) (w' : World) : Prop := e = .returned (.bool true) ∧ G w w'
def H1 (a b s e : Nat) (ok two : Bool) : Prop := ∀ w pa pb f, Two w pa pb a b → Any (Ieee.double.add a b) f →
  Calls Tryd.prog 8 #[.float .f64 s, .float .f64 e, .bool ok, .float .f64 f, .bool two, .func (.func 9) #[] #[.pointer (some ⟨pa, 0, none⟩), .pointer (some ⟨pb, 0, none⟩)]] w (True3 w)
def H2 (a b s e : Nat) (ok two : Bool) : Prop := ∀ w pa pb f, Two w pa pb a b → Any (Ieee.double.mul a b) f →
  Calls Tryd.prog 8 #[.float .f64 s, .float .f64 e, .bool ok, .float .f64 f, .bool two, .func (.func 13) #[] #[.pointer (some ⟨pa, 0, none⟩), .pointer (some ⟨pb, 0, none⟩)]] w (True3 w)
def H3 (a b s e : Nat) (ok two : Bool) : Prop := ∀ w pa pq pb pb0 f, Two w pa pb0 a b → Two w pq pb f b → Any (Ieee.double.div a b) f →
  Calls Tryd.prog 8 #[.float .f64 s, .float .f64 e, .bool ok, .float .f64 f, .bool two, .func (.func 17) #[] #[.pointer (some ⟨pa, 0, none⟩), .pointer (some ⟨pq, 0, none⟩), .pointer (some ⟨pb, 0, none⟩)]] w (True3 w)
def H4 (a b s e : Nat) (ok one : Bool) : Prop := ∀ w pa pq pb pb0 f, Two w pa pb0 a b → Two w pq pb f f → Any (Ieee.double.sqrt a) f →
  Calls Tryd.prog 8 #[.float .f64 s, .float .f64 e, .bool ok, .float .f64 f, .bool one, .func (.func 17) #[] #[.pointer (some ⟨pa, 0, none⟩), .pointer (some ⟨pq, 0, none⟩), .pointer (some ⟨pb, 0, none⟩)]] w (True3 w)
def Ret3 (s e : Nat) (ok : Bool) (w : World) (en : Ending) (w' : World) : Prop := en = .returned (.tuple #[.float .f64 s, .float .f64 e, .bool ok]) ∧ G w w'

set_option maxHeartbeats 4000000 in
set_option maxRecDepth 100000 in
theorem says_tt (w : World) (a b s1 e1 s2 e2 s3 e3 s4 e4 : Nat) (ok1 ok2 ok3 ok4 : Bool) (ht : Tab w)
    (HFx : ∀ x r w, (x = a ∧ r = true ∨ x = b ∧ r = true) → Calls Tryd.prog 6 #[.float .f64 x] w fun e w' => e = .returned (.bool r) ∧ G w w')
    (HS : ∀ w, Calls Tryd.prog 7 #[.float .f64 a, .float .f64 b] w (Ret3 s1 e1 ok1 w)) (HP : ∀ w, Tab w → Calls Tryd.prog 12 #[.float .f64 a, .float .f64 b] w (Ret3 s2 e2 ok2 w))
    (HQ : ∀ w, Tab w → Calls Tryd.prog 15 #[.float .f64 a, .float .f64 b] w (Ret3 s3 e3 ok3 w)) (HR : ∀ w, Tab w → Calls Tryd.prog 19 #[.float .f64 a] w (Ret3 s4 e4 ok4 w))
    (h1 : H1 a b s1 e1 ok1 true) (h2 : H2 a b s2 e2 ok2 true) (h3 : H3 a b s3 e3 ok3 true) (h4 : H4 a b s4 e4 ok4 true)
    (hok : ∀ f, Any (Ieee.double.add a b) f → fin f = true → ok1 = true) :
    Calls Tryd.prog 3 #[.float .f64 a, .float .f64 b] w (True3 w) := by
  have HL : Hid _ := fun w ht => lost_c w ht
  have HFx : Hid _ := HFx
  have HS : Hid _ := HS
  have HP : Hid _ := HP
  have HQ : Hid _ := HQ
  have HR : Hid _ := HR
  have HH1 : Hid (H1 a b s1 e1 ok1 true) := h1
  have HH2 : Hid (H2 a b s2 e2 ok2 true) := h2
  have HH3 : Hid (H3 a b s3 e3 ok3 true) := h3
  have HH4 : Hid (H4 a b s4 e4 ok4 true) := h4
  have HOK : Hid _ := hok
  have HAdd : Hid (∀ w, ∃ r w', (binOp .add 22 (.float .f64 a) (.float .f64 b)).run Tryd.prog w = .ok (.float .f64 r) w' ∧ G w w' ∧ Any (Ieee.double.add a b) r) := fun w => arith_any .add 22 a b (Or.inl rfl) (fun q hq => Ieee.Format.add_lt _ hq) w
  have HMul : Hid (∀ w, ∃ r w', (binOp .mul 22 (.float .f64 a) (.float .f64 b)).run Tryd.prog w = .ok (.float .f64 r) w' ∧ G w w' ∧ Any (Ieee.double.mul a b) r) := fun w => arith_any .mul 22 a b (Or.inr (Or.inr (Or.inl rfl))) (fun q hq => Ieee.Format.mul_lt _ hq) w
  have HDiv : Hid (∀ w, ∃ r w', (binOp .quo 22 (.float .f64 a) (.float .f64 b)).run Tryd.prog w = .ok (.float .f64 r) w' ∧ G w w' ∧ Any (Ieee.double.div a b) r) := fun w => arith_any .quo 22 a b (Or.inr (Or.inr (Or.inr rfl))) (fun q hq => Ieee.Format.div_lt _ hq) w
  have HFin : Hid _ := fun x w hx => finite_c x w hx
  clear h1 h2 h3 h4 hok
  have hg0 := ((G.refl w).alloc (.cells #[.float .f64 a] 22)).alloc (.cells #[.float .f64 b] 22)
  have hC : Two ((w.alloc (.cells #[.float .f64 a] 22)).alloc (.cells #[.float .f64 b] 22)) w.heap.size (w.heap.size + 1) a b := by
    refine ⟨by simp; omega, by simp, by simp, ?_⟩
    rw [World.cell?_alloc_at _ _ _ _ (by simp)]; rfl
  have ht0 := ht.G hg0
  clear ht
  go_enter Tryd.func3, Tryd.ntmps3
  go_wp2_with fail
  generalize (w.alloc (.cells #[.float .f64 a] 22)).alloc (.cells #[.float .f64 b] 22) = w0 at *
  generalize hpa : w.heap.size = pa at *
  generalize hpb : pa + 1 = pb at *
  clear hpa hpb
  refine Calls.mono (P := Tryd.prog) (HL.out _ ht0) ?_
  rintro e w1 ⟨rfl, g1⟩
  have T1 := hC.G g1
  have ht1 := ht0.G g1
  have G1 := G.trans hg0 g1
  clear hC ht0 g1 hg0 HL
  obtain ⟨sa1, sb1, ca1, cb1⟩ := T1
  have T1 : Hid (Two w1 pa pb a b) := ⟨sa1, sb1, ca1, cb1⟩
  go_wp2_with fail
  refine region_gw (by kernel_rfl) (by kernel_rfl) ?_
  intro W hW
  have hq1 := gw_cell (w := W) (a := ⟨pa, 0, none⟩) (x := .float .f64 a) (by rw [hW]; first | (simp; done) | (simp; omega) | omega) (by rw [hW]; first | assumption | (simp [go_sem]; done) | (simp [*, go_sem]; done))
  have hq2 := gw_cell (w := W) (a := ⟨pb, 0, none⟩) (x := .float .f64 b) (by rw [hW]; first | (simp; done) | (simp; omega) | omega) (by rw [hW]; first | assumption | (simp [go_sem]; done) | (simp [*, go_sem]; done))
  clear hW
  repeat (go_big_quiet_step ((go_at_call 6; exact quiet_gw (HFx.out _ _ _ (by first | exact Or.inl ⟨rfl, rfl⟩ | exact Or.inr ⟨rfl, rfl⟩)))))
  refine wpQuiet_nil ?_
  clear hq1 hq2
  intro w2 hw2
  clear sa1 sb1 ca1 cb1 HFx
  have T2 : Hid (Two w2 pa pb a b) := T1.out.G hw2
  have ht2 := ht1.G hw2
  have G2 := G.trans G1 hw2
  clear T1 ht1 G1 hw2
  obtain ⟨-, -, ca, cb⟩ := T2.out
  go_wp2_with fail
  clear ca cb
  refine Calls.mono (P := Tryd.prog) (HS.out _) ?_
  rintro e w3 ⟨rfl, g3⟩
  have T3 : Hid (Two w3 pa pb a b) := T2.out.G g3
  have ht3 := ht2.G g3
  have G3 := G.trans G2 g3
  clear T2 ht2 G2 g3 HS
  obtain ⟨-, -, ca, cb⟩ := T3.out
  obtain ⟨f1, w4, hr, g4, ha1⟩ := HAdd.out w3
  have T4 : Hid (Two w4 pa pb a b) := T3.out.G g4
  have ht4 := ht3.G g4
  have G4 := G.trans G3 g4
  have HC1 : Hid _ := HH1.out w4 pa pb f1 T4.out ha1
  clear T3 ht3 G3 g4 HH1 ha1
  go_wp2_with fail
  clear ca cb hr
  refine Calls.mono (P := Tryd.prog) HC1.out ?_
  rintro e w5 ⟨rfl, g5⟩
  have T5 : Hid (Two w5 pa pb a b) := T4.out.G g5
  have ht5 := ht4.G g5
  have G5 := G.trans G4 g5
  clear T4 ht4 G4 g5 HC1
  obtain ⟨-, -, ca, cb⟩ := T5.out
  obtain ⟨f2, w6, hr, g6, ha2⟩ := HAdd.out w5
  have T6 : Hid (Two w6 pa pb a b) := T5.out.G g6
  have ht6 := ht5.G g6
  have G6 := G.trans G5 g6
  have HC2 : Hid _ := HFin.out f2 w6 ha2.1
  have HO : Hid (fin f2 = true → ok1 = true) := HOK.out f2 ha2
  clear T5 ht5 G5 g6 HAdd HOK HFin ha2
  go_wp2_with fail
  clear ca cb hr
  refine Calls.mono (P := Tryd.prog) HC2.out ?_
  rintro e w7 ⟨rfl, g7⟩
  have T7 : Hid (Two w7 pa pb a b) := T6.out.G g7
  have ht7 := ht6.G g7
  have G7 := G.trans G6 g7
  clear T6 ht6 G6 g7 HC2
  by_cases hf : FT.rung f2 < FT.infR
  · have hok := HO.out (decide_eq_true hf)
    subst hok
    rw [decide_eq_true hf]
    clear HO hf
    obtain ⟨-, -, ca, cb⟩ := T7.out
    go_wp2_with fail
    refine Calls.mono (P := Tryd.prog) (HP.out _ ht7) ?_
    rintro e w8 ⟨rfl, g8⟩
    clear ca cb
    have T8 : Hid (Two w8 pa pb a b) := T7.out.G g8
    have ht8 := ht7.G g8
    have G8 := G.trans G7 g8
    clear T7 ht7 G7 g8 HP
    obtain ⟨-, -, ca, cb⟩ := T8.out
    obtain ⟨f3, w9, hr, g9, ha3⟩ := HMul.out w8
    have T9 : Hid (Two w9 pa pb a b) := T8.out.G g9
    have ht9 := ht8.G g9
    have G9 := G.trans G8 g9
    have HC3 : Hid _ := HH2.out w9 pa pb f3 T9.out ha3
    clear T8 ht8 G8 g9 HH2 ha3 HMul
    go_wp2_with fail
    clear ca cb hr
    refine Calls.mono (P := Tryd.prog) HC3.out ?_
    rintro e w10 ⟨rfl, g10⟩
    have T10 : Hid (Two w10 pa pb a b) := T9.out.G g10
    have ht10 := ht9.G g10
    have G10 := G.trans G9 g10
    clear T9 ht9 G9 g10 HC3
    obtain ⟨-, -, ca, cb⟩ := T10.out
    go_wp2_with fail
    refine Calls.mono (P := Tryd.prog) (HQ.out _ ht10) ?_
    rintro e w11 ⟨rfl, g11⟩
    clear ca cb
    have T11 : Hid (Two w11 pa pb a b) := T10.out.G g11
    have ht11 := ht10.G g11
    have G11 := G.trans G10 g11
    clear T10 ht10 G10 g11 HQ
    obtain ⟨-, -, ca, cb⟩ := T11.out
    obtain ⟨f4, w12, hr, g12, ha4⟩ := HDiv.out w11
    have T12 : Hid (Two w12 pa pb a b) := T11.out.G g12
    have ht12 := ht11.G g12
    have G12 := G.trans G11 g12
    have HA4 : Hid (Any (Ieee.double.div a b) f4) := ha4
    clear T11 ht11 G11 g12 HDiv ha4
    obtain ⟨-, -, ca2, cb2⟩ := T12.out
    go_wp2_with fail
    clear ca cb hr ca2 cb2
    refine Calls.mono (P := Tryd.prog) (clo_3 _ pa f4 b) ?_
    rintro e w13 ⟨pq, pd, rfl, g13, k1, k2, k3, k4⟩
    have T13 : Hid (Two w13 pa pb a b) := T12.out.G g13
    have ht13 := ht12.G g13
    have G13 := G.trans G12 g13
    have HC4 : Hid _ := HH3.out w13 pa pq pd pb f4 T13.out ⟨k1, k2, k3, k4⟩ HA4.out
    clear T12 ht12 G12 g13 HH3 HA4 k1 k2 k3 k4
    go_wp2_with fail
    refine Calls.mono (P := Tryd.prog) HC4.out ?_
    rintro e w14 ⟨rfl, g14⟩
    have T14 : Hid (Two w14 pa pb a b) := T13.out.G g14
    have ht14 := ht13.G g14
    have G14 := G.trans G13 g14
    clear T13 ht13 G13 g14 HC4
    obtain ⟨-, -, ca, cb⟩ := T14.out
    go_wp2_with fail
    refine Calls.mono (P := Tryd.prog) (HR.out _ ht14) ?_
    rintro e w15 ⟨rfl, g15⟩
    clear ca cb
    have T15 : Hid (Two w15 pa pb a b) := T14.out.G g15
    have G15 := G.trans G14 g15
    clear T14 ht14 G14 g15 HR
    obtain ⟨-, -, ca, cb⟩ := T15.out
    go_wp2_with fail
    refine Calls.mono (P := Tryd.prog) (sqrt_any a _) ?_
    rintro e w16 ⟨f5, rfl, g16, ha5⟩
    clear ca cb
    have T16 : Hid (Two w16 pa pb a b) := T15.out.G g16
    have G16 := G.trans G15 g16
    have HA5 : Hid (Any (Ieee.double.sqrt a) f5) := ha5
    clear T15 G15 g16 ha5
    go_wp2_with fail
    refine Calls.mono (P := Tryd.prog) (clo_3 _ pa f5 f5) ?_
    rintro e w17 ⟨pq2, pd2, rfl, g17, k1, k2, k3, k4⟩
    have T17 : Hid (Two w17 pa pb a b) := T16.out.G g17
    have G17 := G.trans G16 g17
    have HC5 : Hid _ := HH4.out w17 pa pq2 pd2 pb f5 T17.out ⟨k1, k2, k3, k4⟩ HA5.out
    clear T16 G16 g17 HH4 HA5 k1 k2 k3 k4 T17
    go_wp2_with fail
    refine Calls.mono (P := Tryd.prog) HC5.out ?_
    rintro e w18 ⟨rfl, g18⟩
    go_wp2_with fail
    go_ret
    exact ⟨rfl, G.trans G17 g18⟩
  · rw [decide_eq_false hf]
    clear HO hf
    obtain ⟨-, -, ca, cb⟩ := T7.out
    go_wp2_with fail
    refine Calls.mono (P := Tryd.prog) (HP.out _ ht7) ?_
    rintro e w8 ⟨rfl, g8⟩
    clear ca cb
    have T8 : Hid (Two w8 pa pb a b) := T7.out.G g8
    have ht8 := ht7.G g8
    have G8 := G.trans G7 g8
    clear T7 ht7 G7 g8 HP
    obtain ⟨-, -, ca, cb⟩ := T8.out
    obtain ⟨f3, w9, hr, g9, ha3⟩ := HMul.out w8
    have T9 : Hid (Two w9 pa pb a b) := T8.out.G g9
    have ht9 := ht8.G g9
    have G9 := G.trans G8 g9
    have HC3 : Hid _ := HH2.out w9 pa pb f3 T9.out ha3
    clear T8 ht8 G8 g9 HH2 ha3 HMul
    go_wp2_with fail
    clear ca cb hr
    refine Calls.mono (P := Tryd.prog) HC3.out ?_
    rintro e w10 ⟨rfl, g10⟩
    have T10 : Hid (Two w10 pa pb a b) := T9.out.G g10
    have ht10 := ht9.G g10
    have G10 := G.trans G9 g10
    clear T9 ht9 G9 g10 HC3
    obtain ⟨-, -, ca, cb⟩ := T10.out
    go_wp2_with fail
    refine Calls.mono (P := Tryd.prog) (HQ.out _ ht10) ?_
    rintro e w11 ⟨rfl, g11⟩
    clear ca cb
    have T11 : Hid (Two w11 pa pb a b) := T10.out.G g11
    have ht11 := ht10.G g11
    have G11 := G.trans G10 g11
    clear T10 ht10 G10 g11 HQ
    obtain ⟨-, -, ca, cb⟩ := T11.out
    obtain ⟨f4, w12, hr, g12, ha4⟩ := HDiv.out w11
    have T12 : Hid (Two w12 pa pb a b) := T11.out.G g12
    have ht12 := ht11.G g12
    have G12 := G.trans G11 g12
    have HA4 : Hid (Any (Ieee.double.div a b) f4) := ha4
    clear T11 ht11 G11 g12 HDiv ha4
    obtain ⟨-, -, ca2, cb2⟩ := T12.out
    go_wp2_with fail
    clear ca cb hr ca2 cb2
    refine Calls.mono (P := Tryd.prog) (clo_3 _ pa f4 b) ?_
    rintro e w13 ⟨pq, pd, rfl, g13, k1, k2, k3, k4⟩
    have T13 : Hid (Two w13 pa pb a b) := T12.out.G g13
    have ht13 := ht12.G g13
    have G13 := G.trans G12 g13
    have HC4 : Hid _ := HH3.out w13 pa pq pd pb f4 T13.out ⟨k1, k2, k3, k4⟩ HA4.out
    clear T12 ht12 G12 g13 HH3 HA4 k1 k2 k3 k4
    go_wp2_with fail
    refine Calls.mono (P := Tryd.prog) HC4.out ?_
    rintro e w14 ⟨rfl, g14⟩
    have T14 : Hid (Two w14 pa pb a b) := T13.out.G g14
    have ht14 := ht13.G g14
    have G14 := G.trans G13 g14
    clear T13 ht13 G13 g14 HC4
    obtain ⟨-, -, ca, cb⟩ := T14.out
    go_wp2_with fail
    refine Calls.mono (P := Tryd.prog) (HR.out _ ht14) ?_
    rintro e w15 ⟨rfl, g15⟩
    clear ca cb
    have T15 : Hid (Two w15 pa pb a b) := T14.out.G g15
    have G15 := G.trans G14 g15
    clear T14 ht14 G14 g15 HR
    obtain ⟨-, -, ca, cb⟩ := T15.out
    go_wp2_with fail
    refine Calls.mono (P := Tryd.prog) (sqrt_any a _) ?_
    rintro e w16 ⟨f5, rfl, g16, ha5⟩
    clear ca cb
    have T16 : Hid (Two w16 pa pb a b) := T15.out.G g16
    have G16 := G.trans G15 g16
    have HA5 : Hid (Any (Ieee.double.sqrt a) f5) := ha5
    clear T15 G15 g16 ha5
    go_wp2_with fail
    refine Calls.mono (P := Tryd.prog) (clo_3 _ pa f5 f5) ?_
    rintro e w17 ⟨pq2, pd2, rfl, g17, k1, k2, k3, k4⟩
    have T17 : Hid (Two w17 pa pb a b) := T16.out.G g17
    have G17 := G.trans G16 g17
    have HC5 : Hid _ := HH4.out w17 pa pq2 pd2 pb f5 T17.out ⟨k1, k2, k3, k4⟩ HA5.out
    clear T16 G16 g17 HH4 HA5 k1 k2 k3 k4 T17
    go_wp2_with fail
    refine Calls.mono (P := Tryd.prog) HC5.out ?_
    rintro e w18 ⟨rfl, g18⟩
    go_wp2_with fail
    go_ret
    exact ⟨rfl, G.trans G17 g18⟩
set_option maxHeartbeats 4000000 in
set_option maxRecDepth 100000 in
theorem says_tf (w : World) (a b s1 e1 s2 e2 s3 e3 s4 e4 : Nat) (ok1 ok2 ok3 ok4 : Bool) (ht : Tab w)
    (HFx : ∀ x r w, (x = a ∧ r = true ∨ x = b ∧ r = false) → Calls Tryd.prog 6 #[.float .f64 x] w fun e w' => e = .returned (.bool r) ∧ G w w')
    (HS : ∀ w, Calls Tryd.prog 7 #[.float .f64 a, .float .f64 b] w (Ret3 s1 e1 ok1 w)) (HP : ∀ w, Tab w → Calls Tryd.prog 12 #[.float .f64 a, .float .f64 b] w (Ret3 s2 e2 ok2 w))
    (HQ : ∀ w, Tab w → Calls Tryd.prog 15 #[.float .f64 a, .float .f64 b] w (Ret3 s3 e3 ok3 w)) (HR : ∀ w, Tab w → Calls Tryd.prog 19 #[.float .f64 a] w (Ret3 s4 e4 ok4 w))
    (h1 : H1 a b s1 e1 ok1 false) (h2 : H2 a b s2 e2 ok2 false) (h3 : H3 a b s3 e3 ok3 false) (h4 : H4 a b s4 e4 ok4 true) :
    Calls Tryd.prog 3 #[.float .f64 a, .float .f64 b] w (True3 w) := by
  have HL : Hid _ := fun w ht => lost_c w ht
  have HFx : Hid _ := HFx
  have HS : Hid _ := HS
  have HP : Hid _ := HP
  have HQ : Hid _ := HQ
  have HR : Hid _ := HR
  have HH1 : Hid (H1 a b s1 e1 ok1 false) := h1
  have HH2 : Hid (H2 a b s2 e2 ok2 false) := h2
  have HH3 : Hid (H3 a b s3 e3 ok3 false) := h3
  have HH4 : Hid (H4 a b s4 e4 ok4 true) := h4
  have HAdd : Hid (∀ w, ∃ r w', (binOp .add 22 (.float .f64 a) (.float .f64 b)).run Tryd.prog w = .ok (.float .f64 r) w' ∧ G w w' ∧ Any (Ieee.double.add a b) r) := fun w => arith_any .add 22 a b (Or.inl rfl) (fun q hq => Ieee.Format.add_lt _ hq) w
  have HMul : Hid (∀ w, ∃ r w', (binOp .mul 22 (.float .f64 a) (.float .f64 b)).run Tryd.prog w = .ok (.float .f64 r) w' ∧ G w w' ∧ Any (Ieee.double.mul a b) r) := fun w => arith_any .mul 22 a b (Or.inr (Or.inr (Or.inl rfl))) (fun q hq => Ieee.Format.mul_lt _ hq) w
  have HDiv : Hid (∀ w, ∃ r w', (binOp .quo 22 (.float .f64 a) (.float .f64 b)).run Tryd.prog w = .ok (.float .f64 r) w' ∧ G w w' ∧ Any (Ieee.double.div a b) r) := fun w => arith_any .quo 22 a b (Or.inr (Or.inr (Or.inr rfl))) (fun q hq => Ieee.Format.div_lt _ hq) w
  clear h1 h2 h3 h4
  have hg0 := ((G.refl w).alloc (.cells #[.float .f64 a] 22)).alloc (.cells #[.float .f64 b] 22)
  have hC : Two ((w.alloc (.cells #[.float .f64 a] 22)).alloc (.cells #[.float .f64 b] 22)) w.heap.size (w.heap.size + 1) a b := by
    refine ⟨by simp; omega, by simp, by simp, ?_⟩
    rw [World.cell?_alloc_at _ _ _ _ (by simp)]; rfl
  have ht0 := ht.G hg0
  clear ht
  go_enter Tryd.func3, Tryd.ntmps3
  go_wp2_with fail
  generalize (w.alloc (.cells #[.float .f64 a] 22)).alloc (.cells #[.float .f64 b] 22) = w0 at *
  generalize hpa : w.heap.size = pa at *
  generalize hpb : pa + 1 = pb at *
  clear hpa hpb
  refine Calls.mono (P := Tryd.prog) (HL.out _ ht0) ?_
  rintro e w1 ⟨rfl, g1⟩
  have T1 := hC.G g1
  have ht1 := ht0.G g1
  have G1 := G.trans hg0 g1
  clear hC ht0 g1 hg0 HL
  obtain ⟨sa1, sb1, ca1, cb1⟩ := T1
  have T1 : Hid (Two w1 pa pb a b) := ⟨sa1, sb1, ca1, cb1⟩
  go_wp2_with fail
  refine region_gw (by kernel_rfl) (by kernel_rfl) ?_
  intro W hW
  have hq3 := gw_cell (w := W) (a := ⟨pa, 0, none⟩) (x := .float .f64 a) (by rw [hW]; first | (simp; done) | (simp; omega) | omega) (by rw [hW]; first | assumption | (simp [go_sem]; done) | (simp [*, go_sem]; done))
  have hq4 := gw_cell (w := W) (a := ⟨pb, 0, none⟩) (x := .float .f64 b) (by rw [hW]; first | (simp; done) | (simp; omega) | omega) (by rw [hW]; first | assumption | (simp [go_sem]; done) | (simp [*, go_sem]; done))
  clear hW
  repeat (go_big_quiet_step ((go_at_call 6; exact quiet_gw (HFx.out _ _ _ (by first | exact Or.inl ⟨rfl, rfl⟩ | exact Or.inr ⟨rfl, rfl⟩)))))
  refine wpQuiet_nil ?_
  clear hq3 hq4
  intro w2 hw2
  clear sa1 sb1 ca1 cb1 HFx
  have T2 : Hid (Two w2 pa pb a b) := T1.out.G hw2
  have ht2 := ht1.G hw2
  have G2 := G.trans G1 hw2
  clear T1 ht1 G1 hw2
  obtain ⟨-, -, ca, cb⟩ := T2.out
  go_wp2_with fail
  clear ca cb
  refine Calls.mono (P := Tryd.prog) (HS.out _) ?_
  rintro e w3 ⟨rfl, g3⟩
  have T3 : Hid (Two w3 pa pb a b) := T2.out.G g3
  have ht3 := ht2.G g3
  have G3 := G.trans G2 g3
  clear T2 ht2 G2 g3 HS
  obtain ⟨-, -, ca, cb⟩ := T3.out
  obtain ⟨f1, w4, hr, g4, ha1⟩ := HAdd.out w3
  have T4 : Hid (Two w4 pa pb a b) := T3.out.G g4
  have ht4 := ht3.G g4
  have G4 := G.trans G3 g4
  have HC1 : Hid _ := HH1.out w4 pa pb f1 T4.out ha1
  clear T3 ht3 G3 g4 HH1 ha1
  go_wp2_with fail
  clear ca cb hr
  refine Calls.mono (P := Tryd.prog) HC1.out ?_
  rintro e w5 ⟨rfl, g5⟩
  have T7 : Hid (Two w5 pa pb a b) := T4.out.G g5
  have ht7 := ht4.G g5
  have G7 := G.trans G4 g5
  clear T4 ht4 G4 g5 HC1 HAdd
  obtain ⟨-, -, ca, cb⟩ := T7.out
  go_wp2_with fail
  refine Calls.mono (P := Tryd.prog) (HP.out _ ht7) ?_
  rintro e w8 ⟨rfl, g8⟩
  clear ca cb
  have T8 : Hid (Two w8 pa pb a b) := T7.out.G g8
  have ht8 := ht7.G g8
  have G8 := G.trans G7 g8
  clear T7 ht7 G7 g8 HP
  obtain ⟨-, -, ca, cb⟩ := T8.out
  obtain ⟨f3, w9, hr, g9, ha3⟩ := HMul.out w8
  have T9 : Hid (Two w9 pa pb a b) := T8.out.G g9
  have ht9 := ht8.G g9
  have G9 := G.trans G8 g9
  have HC3 : Hid _ := HH2.out w9 pa pb f3 T9.out ha3
  clear T8 ht8 G8 g9 HH2 ha3 HMul
  go_wp2_with fail
  clear ca cb hr
  refine Calls.mono (P := Tryd.prog) HC3.out ?_
  rintro e w10 ⟨rfl, g10⟩
  have T10 : Hid (Two w10 pa pb a b) := T9.out.G g10
  have ht10 := ht9.G g10
  have G10 := G.trans G9 g10
  clear T9 ht9 G9 g10 HC3
  obtain ⟨-, -, ca, cb⟩ := T10.out
  go_wp2_with fail
  refine Calls.mono (P := Tryd.prog) (HQ.out _ ht10) ?_
  rintro e w11 ⟨rfl, g11⟩
  clear ca cb
  have T11 : Hid (Two w11 pa pb a b) := T10.out.G g11
  have ht11 := ht10.G g11
  have G11 := G.trans G10 g11
  clear T10 ht10 G10 g11 HQ
  obtain ⟨-, -, ca, cb⟩ := T11.out
  obtain ⟨f4, w12, hr, g12, ha4⟩ := HDiv.out w11
  have T12 : Hid (Two w12 pa pb a b) := T11.out.G g12
  have ht12 := ht11.G g12
  have G12 := G.trans G11 g12
  have HA4 : Hid (Any (Ieee.double.div a b) f4) := ha4
  clear T11 ht11 G11 g12 HDiv ha4
  obtain ⟨-, -, ca2, cb2⟩ := T12.out
  go_wp2_with fail
  clear ca cb hr ca2 cb2
  refine Calls.mono (P := Tryd.prog) (clo_3 _ pa f4 b) ?_
  rintro e w13 ⟨pq, pd, rfl, g13, k1, k2, k3, k4⟩
  have T13 : Hid (Two w13 pa pb a b) := T12.out.G g13
  have ht13 := ht12.G g13
  have G13 := G.trans G12 g13
  have HC4 : Hid _ := HH3.out w13 pa pq pd pb f4 T13.out ⟨k1, k2, k3, k4⟩ HA4.out
  clear T12 ht12 G12 g13 HH3 HA4 k1 k2 k3 k4
  go_wp2_with fail
  refine Calls.mono (P := Tryd.prog) HC4.out ?_
  rintro e w14 ⟨rfl, g14⟩
  have T14 : Hid (Two w14 pa pb a b) := T13.out.G g14
  have ht14 := ht13.G g14
  have G14 := G.trans G13 g14
  clear T13 ht13 G13 g14 HC4
  obtain ⟨-, -, ca, cb⟩ := T14.out
  go_wp2_with fail
  refine Calls.mono (P := Tryd.prog) (HR.out _ ht14) ?_
  rintro e w15 ⟨rfl, g15⟩
  clear ca cb
  have T15 : Hid (Two w15 pa pb a b) := T14.out.G g15
  have G15 := G.trans G14 g15
  clear T14 ht14 G14 g15 HR
  obtain ⟨-, -, ca, cb⟩ := T15.out
  go_wp2_with fail
  refine Calls.mono (P := Tryd.prog) (sqrt_any a _) ?_
  rintro e w16 ⟨f5, rfl, g16, ha5⟩
  clear ca cb
  have T16 : Hid (Two w16 pa pb a b) := T15.out.G g16
  have G16 := G.trans G15 g16
  have HA5 : Hid (Any (Ieee.double.sqrt a) f5) := ha5
  clear T15 G15 g16 ha5
  go_wp2_with fail
  refine Calls.mono (P := Tryd.prog) (clo_3 _ pa f5 f5) ?_
  rintro e w17 ⟨pq2, pd2, rfl, g17, k1, k2, k3, k4⟩
  have T17 : Hid (Two w17 pa pb a b) := T16.out.G g17
  have G17 := G.trans G16 g17
  have HC5 : Hid _ := HH4.out w17 pa pq2 pd2 pb f5 T17.out ⟨k1, k2, k3, k4⟩ HA5.out
  clear T16 G16 g17 HH4 HA5 k1 k2 k3 k4 T17
  go_wp2_with fail
  refine Calls.mono (P := Tryd.prog) HC5.out ?_
  rintro e w18 ⟨rfl, g18⟩
  go_wp2_with fail
  go_ret
  exact ⟨rfl, G.trans G17 g18⟩
set_option maxHeartbeats 4000000 in
set_option maxRecDepth 100000 in
theorem says_f (w : World) (a b s1 e1 s2 e2 s3 e3 s4 e4 : Nat) (ok1 ok2 ok3 ok4 : Bool) (ht : Tab w)
    (HFx : ∀ x r w, (x = a ∧ r = false) → Calls Tryd.prog 6 #[.float .f64 x] w fun e w' => e = .returned (.bool r) ∧ G w w')
    (HS : ∀ w, Calls Tryd.prog 7 #[.float .f64 a, .float .f64 b] w (Ret3 s1 e1 ok1 w)) (HP : ∀ w, Tab w → Calls Tryd.prog 12 #[.float .f64 a, .float .f64 b] w (Ret3 s2 e2 ok2 w))
    (HQ : ∀ w, Tab w → Calls Tryd.prog 15 #[.float .f64 a, .float .f64 b] w (Ret3 s3 e3 ok3 w)) (HR : ∀ w, Tab w → Calls Tryd.prog 19 #[.float .f64 a] w (Ret3 s4 e4 ok4 w))
    (h1 : H1 a b s1 e1 ok1 false) (h2 : H2 a b s2 e2 ok2 false) (h3 : H3 a b s3 e3 ok3 false) (h4 : H4 a b s4 e4 ok4 false) :
    Calls Tryd.prog 3 #[.float .f64 a, .float .f64 b] w (True3 w) := by
  have HL : Hid _ := fun w ht => lost_c w ht
  have HFx : Hid _ := HFx
  have HS : Hid _ := HS
  have HP : Hid _ := HP
  have HQ : Hid _ := HQ
  have HR : Hid _ := HR
  have HH1 : Hid (H1 a b s1 e1 ok1 false) := h1
  have HH2 : Hid (H2 a b s2 e2 ok2 false) := h2
  have HH3 : Hid (H3 a b s3 e3 ok3 false) := h3
  have HH4 : Hid (H4 a b s4 e4 ok4 false) := h4
  have HAdd : Hid (∀ w, ∃ r w', (binOp .add 22 (.float .f64 a) (.float .f64 b)).run Tryd.prog w = .ok (.float .f64 r) w' ∧ G w w' ∧ Any (Ieee.double.add a b) r) := fun w => arith_any .add 22 a b (Or.inl rfl) (fun q hq => Ieee.Format.add_lt _ hq) w
  have HMul : Hid (∀ w, ∃ r w', (binOp .mul 22 (.float .f64 a) (.float .f64 b)).run Tryd.prog w = .ok (.float .f64 r) w' ∧ G w w' ∧ Any (Ieee.double.mul a b) r) := fun w => arith_any .mul 22 a b (Or.inr (Or.inr (Or.inl rfl))) (fun q hq => Ieee.Format.mul_lt _ hq) w
  have HDiv : Hid (∀ w, ∃ r w', (binOp .quo 22 (.float .f64 a) (.float .f64 b)).run Tryd.prog w = .ok (.float .f64 r) w' ∧ G w w' ∧ Any (Ieee.double.div a b) r) := fun w => arith_any .quo 22 a b (Or.inr (Or.inr (Or.inr rfl))) (fun q hq => Ieee.Format.div_lt _ hq) w
  clear h1 h2 h3 h4
  have hg0 := ((G.refl w).alloc (.cells #[.float .f64 a] 22)).alloc (.cells #[.float .f64 b] 22)
  have hC : Two ((w.alloc (.cells #[.float .f64 a] 22)).alloc (.cells #[.float .f64 b] 22)) w.heap.size (w.heap.size + 1) a b := by
    refine ⟨by simp; omega, by simp, by simp, ?_⟩
    rw [World.cell?_alloc_at _ _ _ _ (by simp)]; rfl
  have ht0 := ht.G hg0
  clear ht
  go_enter Tryd.func3, Tryd.ntmps3
  go_wp2_with fail
  generalize (w.alloc (.cells #[.float .f64 a] 22)).alloc (.cells #[.float .f64 b] 22) = w0 at *
  generalize hpa : w.heap.size = pa at *
  generalize hpb : pa + 1 = pb at *
  clear hpa hpb
  refine Calls.mono (P := Tryd.prog) (HL.out _ ht0) ?_
  rintro e w1 ⟨rfl, g1⟩
  have T1 := hC.G g1
  have ht1 := ht0.G g1
  have G1 := G.trans hg0 g1
  clear hC ht0 g1 hg0 HL
  obtain ⟨sa1, sb1, ca1, cb1⟩ := T1
  have T1 : Hid (Two w1 pa pb a b) := ⟨sa1, sb1, ca1, cb1⟩
  go_wp2_with fail
  refine region_gw (by kernel_rfl) (by kernel_rfl) ?_
  intro W hW
  have hq5 := gw_cell (w := W) (a := ⟨pa, 0, none⟩) (x := .float .f64 a) (by rw [hW]; first | (simp; done) | (simp; omega) | omega) (by rw [hW]; first | assumption | (simp [go_sem]; done) | (simp [*, go_sem]; done))
  have hq6 := gw_cell (w := W) (a := ⟨pb, 0, none⟩) (x := .float .f64 b) (by rw [hW]; first | (simp; done) | (simp; omega) | omega) (by rw [hW]; first | assumption | (simp [go_sem]; done) | (simp [*, go_sem]; done))
  clear hW
  repeat (go_big_quiet_step ((go_at_call 6; exact quiet_gw (HFx.out _ _ _ ⟨rfl, rfl⟩))))
  refine wpQuiet_nil ?_
  clear hq5 hq6
  intro w2 hw2
  clear sa1 sb1 ca1 cb1 HFx
  have T2 : Hid (Two w2 pa pb a b) := T1.out.G hw2
  have ht2 := ht1.G hw2
  have G2 := G.trans G1 hw2
  clear T1 ht1 G1 hw2
  obtain ⟨-, -, ca, cb⟩ := T2.out
  go_wp2_with fail
  clear ca cb
  refine Calls.mono (P := Tryd.prog) (HS.out _) ?_
  rintro e w3 ⟨rfl, g3⟩
  have T3 : Hid (Two w3 pa pb a b) := T2.out.G g3
  have ht3 := ht2.G g3
  have G3 := G.trans G2 g3
  clear T2 ht2 G2 g3 HS
  obtain ⟨-, -, ca, cb⟩ := T3.out
  obtain ⟨f1, w4, hr, g4, ha1⟩ := HAdd.out w3
  have T4 : Hid (Two w4 pa pb a b) := T3.out.G g4
  have ht4 := ht3.G g4
  have G4 := G.trans G3 g4
  have HC1 : Hid _ := HH1.out w4 pa pb f1 T4.out ha1
  clear T3 ht3 G3 g4 HH1 ha1
  go_wp2_with fail
  clear ca cb hr
  refine Calls.mono (P := Tryd.prog) HC1.out ?_
  rintro e w5 ⟨rfl, g5⟩
  have T7 : Hid (Two w5 pa pb a b) := T4.out.G g5
  have ht7 := ht4.G g5
  have G7 := G.trans G4 g5
  clear T4 ht4 G4 g5 HC1 HAdd
  obtain ⟨-, -, ca, cb⟩ := T7.out
  go_wp2_with fail
  refine Calls.mono (P := Tryd.prog) (HP.out _ ht7) ?_
  rintro e w8 ⟨rfl, g8⟩
  clear ca cb
  have T8 : Hid (Two w8 pa pb a b) := T7.out.G g8
  have ht8 := ht7.G g8
  have G8 := G.trans G7 g8
  clear T7 ht7 G7 g8 HP
  obtain ⟨-, -, ca, cb⟩ := T8.out
  obtain ⟨f3, w9, hr, g9, ha3⟩ := HMul.out w8
  have T9 : Hid (Two w9 pa pb a b) := T8.out.G g9
  have ht9 := ht8.G g9
  have G9 := G.trans G8 g9
  have HC3 : Hid _ := HH2.out w9 pa pb f3 T9.out ha3
  clear T8 ht8 G8 g9 HH2 ha3 HMul
  go_wp2_with fail
  clear ca cb hr
  refine Calls.mono (P := Tryd.prog) HC3.out ?_
  rintro e w10 ⟨rfl, g10⟩
  have T10 : Hid (Two w10 pa pb a b) := T9.out.G g10
  have ht10 := ht9.G g10
  have G10 := G.trans G9 g10
  clear T9 ht9 G9 g10 HC3
  obtain ⟨-, -, ca, cb⟩ := T10.out
  go_wp2_with fail
  refine Calls.mono (P := Tryd.prog) (HQ.out _ ht10) ?_
  rintro e w11 ⟨rfl, g11⟩
  clear ca cb
  have T11 : Hid (Two w11 pa pb a b) := T10.out.G g11
  have ht11 := ht10.G g11
  have G11 := G.trans G10 g11
  clear T10 ht10 G10 g11 HQ
  obtain ⟨-, -, ca, cb⟩ := T11.out
  obtain ⟨f4, w12, hr, g12, ha4⟩ := HDiv.out w11
  have T12 : Hid (Two w12 pa pb a b) := T11.out.G g12
  have ht12 := ht11.G g12
  have G12 := G.trans G11 g12
  have HA4 : Hid (Any (Ieee.double.div a b) f4) := ha4
  clear T11 ht11 G11 g12 HDiv ha4
  obtain ⟨-, -, ca2, cb2⟩ := T12.out
  go_wp2_with fail
  clear ca cb hr ca2 cb2
  refine Calls.mono (P := Tryd.prog) (clo_3 _ pa f4 b) ?_
  rintro e w13 ⟨pq, pd, rfl, g13, k1, k2, k3, k4⟩
  have T13 : Hid (Two w13 pa pb a b) := T12.out.G g13
  have ht13 := ht12.G g13
  have G13 := G.trans G12 g13
  have HC4 : Hid _ := HH3.out w13 pa pq pd pb f4 T13.out ⟨k1, k2, k3, k4⟩ HA4.out
  clear T12 ht12 G12 g13 HH3 HA4 k1 k2 k3 k4
  go_wp2_with fail
  refine Calls.mono (P := Tryd.prog) HC4.out ?_
  rintro e w14 ⟨rfl, g14⟩
  have T14 : Hid (Two w14 pa pb a b) := T13.out.G g14
  have ht14 := ht13.G g14
  have G14 := G.trans G13 g14
  clear T13 ht13 G13 g14 HC4
  obtain ⟨-, -, ca, cb⟩ := T14.out
  go_wp2_with fail
  refine Calls.mono (P := Tryd.prog) (HR.out _ ht14) ?_
  rintro e w15 ⟨rfl, g15⟩
  clear ca cb
  have T15 : Hid (Two w15 pa pb a b) := T14.out.G g15
  have G15 := G.trans G14 g15
  clear T14 ht14 G14 g15 HR
  obtain ⟨-, -, ca, cb⟩ := T15.out
  go_wp2_with fail
  refine Calls.mono (P := Tryd.prog) (sqrt_any a _) ?_
  rintro e w16 ⟨f5, rfl, g16, ha5⟩
  clear ca cb
  have T16 : Hid (Two w16 pa pb a b) := T15.out.G g16
  have G16 := G.trans G15 g16
  have HA5 : Hid (Any (Ieee.double.sqrt a) f5) := ha5
  clear T15 G15 g16 ha5
  go_wp2_with fail
  refine Calls.mono (P := Tryd.prog) (clo_3 _ pa f5 f5) ?_
  rintro e w17 ⟨pq2, pd2, rfl, g17, k1, k2, k3, k4⟩
  have T17 : Hid (Two w17 pa pb a b) := T16.out.G g17
  have G17 := G.trans G16 g17
  have HC5 : Hid _ := HH4.out w17 pa pq2 pd2 pb f5 T17.out ⟨k1, k2, k3, k4⟩ HA5.out
  clear T16 G16 g17 HH4 HA5 k1 k2 k3 k4 T17
  go_wp2_with fail
  refine Calls.mono (P := Tryd.prog) HC5.out ?_
  rintro e w18 ⟨rfl, g18⟩
  go_wp2_with fail
  go_ret
  exact ⟨rfl, G.trans G17 g18⟩
end Go.Proofs.YtkelfdhpekkiaacDoor
namespace Go.Proofs.YtkelfdhpekkiaacDoor
open Go.ChangeShapes Go.WideShapes Go.ChangeAt Go.RowKit
open BN
open EA (Z Low Is RnZ Rp top)

theorem lift_le {A : Int} {K L : Nat} (h : A.natAbs < 2 ^ (32 * K)) (hl : K ≤ L) : A.natAbs < 2 ^ (32 * L) := Nat.lt_of_lt_of_le h (Nat.pow_le_pow_right (by omega) (by omega))
theorem lift_ln {B : Nat} {K L : Nat} (h : B < 2 ^ (32 * K)) (hl : K ≤ L) : B < 2 ^ (32 * L) := Nat.lt_of_lt_of_le h (Nat.pow_le_pow_right (by omega) (by omega))

/-- The exact sum. -/
theorem sum_v (a b u : Nat) (hu : u = 1074) (ha : a < 2 ^ 64) (hb : b < 2 ^ 64) (fa : FT.rung a < FT.infR) (fb : FT.rung b < FT.infR) : ∃ R T, Un2 u R T (Z a * ((2 ^ u : Nat) : Int) + Z b * ((2 ^ u : Nat) : Int)) 69 ∧
    ∀ w pa pb, Two w pa pb a b → Calls Tryd.prog 9 #[.pointer (some ⟨pa, 0, none⟩), .pointer (some ⟨pb, 0, none⟩)] w (RetR w R T) := by
  obtain ⟨A1, B1, HA, U1, q1, q1'⟩ := ratZ34 a u 34 ha fa hu rfl
  obtain ⟨A2, B2, HB, U2, q2, q2'⟩ := ratZ34 b u 34 hb fb hu rfl
  have h := (U1.two q1 q1').sum (U2.two q2 q2') (M := 69) (by omega)
  exact ⟨_, _, h, fun w pa pb ht => clo_1 w pa pb a b 34 A1 A2 _ B1 B2 _ U1.pos U2.pos h.pos ht.2.2.1 ht.2.2.2 ht.1 ht.2.1 HA HB (by omega) q1 q1' q2 q2' rfl rfl⟩
/-- The exact product. -/
theorem prod_v (a b u : Nat) (hu : u = 1074) (ha : a < 2 ^ 64) (hb : b < 2 ^ 64) (fa : FT.rung a < FT.infR) (fb : FT.rung b < FT.infR) : ∃ R T, Un2 u R T (Z a * Z b) 68 ∧
    ∀ w pa pb, Two w pa pb a b → Calls Tryd.prog 13 #[.pointer (some ⟨pa, 0, none⟩), .pointer (some ⟨pb, 0, none⟩)] w (RetR w R T) := by
  obtain ⟨A1, B1, HA, U1, q1, q1'⟩ := ratZ34 a u 34 ha fa hu rfl
  obtain ⟨A2, B2, HB, U2, q2, q2'⟩ := ratZ34 b u 34 hb fb hu rfl
  have h := U1.times U2 q1 q1' q2 q2' (M := 68) (by omega)
  exact ⟨_, _, h, fun w pa pb ht => clo_2 w pa pb a b 34 A1 A2 _ B1 B2 _ U1.pos U2.pos h.pos ht.2.2.1 ht.2.2.2 ht.1 ht.2.1 HA HB (by omega) q1 q1' q2 q2' rfl rfl⟩
/-- The exact rest of a quotient or root, and the quotient on top. -/
theorem rest_v (a q b u : Nat) (hu : u = 1074) (ha : a < 2 ^ 64) (hq : q < 2 ^ 64) (hb : b < 2 ^ 64) (fa : FT.rung a < FT.infR) (fq : FT.rung q < FT.infR) (fb : FT.rung b < FT.infR) :
    ∃ V W, Un2 u V W (Z a * ((2 ^ u : Nat) : Int) - Z q * Z b + Z q * ((2 ^ u : Nat) : Int)) 138 ∧
    ∀ w pa pq pb pb0 b0, Two w pa pb0 a b0 → Two w pq pb q b → Calls Tryd.prog 17 #[.pointer (some ⟨pa, 0, none⟩), .pointer (some ⟨pq, 0, none⟩), .pointer (some ⟨pb, 0, none⟩)] w (RetR w V W) := by
  obtain ⟨N, hN⟩ : ∃ N, N = 138 := ⟨_, rfl⟩
  obtain ⟨M, hM⟩ : ∃ M, M = 103 := ⟨_, rfl⟩
  obtain ⟨L, hL⟩ : ∃ L, L = 68 := ⟨_, rfl⟩
  obtain ⟨K, hK⟩ : ∃ K, K = 34 := ⟨_, rfl⟩
  rw [← hN]
  obtain ⟨A1, B1, HA, U1, q1, q1'⟩ := ratZ34 a u K ha fa hu hK
  obtain ⟨A2, B2, HQ, U2, q2, q2'⟩ := ratZ34 q u K hq fq hu hK
  obtain ⟨A3, B3, HB, U3, q3, q3'⟩ := ratZ34 b u K hb fb hu hK
  obtain ⟨P, Q, hm, HC⟩ : ∃ P Q, Un2 u P Q (Z q * Z b) L ∧ ∀ w bz bx b2 : _, bz < w.heap.size → bx < w.heap.size → b2 < w.heap.size → RatIs w bz 0 0 → RatIs w bx A2 B2 → RatIs w b2 A3 B3 → Calls Tryd.prog 14 #[.pointer (some ⟨bz, 0, none⟩), .pointer (some ⟨bx, 0, none⟩), .pointer (some ⟨b2, 0, none⟩)] w (NormTo w bz P Q) :=
    ⟨_, _, U2.times U3 q2 q2' q3 q3' (M := L) (by omega), fun w bz bx b2 i1 i2 i3 i4 i5 i6 => mulR_c w bz bx b2 0 0 A2 A3 B2 B3 K (by omega) q2 q3 q2' q3' U2.pos U3.pos i1 i2 i3 i4 i5 i6⟩
  obtain ⟨R, T, hd, HD⟩ : ∃ R T, Un2 u R T (Z a * ((2 ^ u : Nat) : Int) - Z q * Z b) M ∧ ∀ w bz bx b2 : _, bz < w.heap.size → bx < w.heap.size → b2 < w.heap.size → RatIs w bz 0 0 → RatIs w bx A1 B1 → RatIs w b2 P Q → Calls Tryd.prog 18 #[.pointer (some ⟨bz, 0, none⟩), .pointer (some ⟨bx, 0, none⟩), .pointer (some ⟨b2, 0, none⟩)] w (NormTo w bz R T) :=
    ⟨_, _, (U1.two q1 q1').dif hm (M := M) (by omega), fun w bz bx b2 i1 i2 i3 i4 i5 i6 => subR_c w bz bx b2 0 0 A1 P B1 Q L (by omega) (lift_le q1 (by omega)) hm.num (lift_ln q1' (by omega)) hm.den U1.pos hm.pos i1 i2 i3 i4 i5 i6⟩
  obtain ⟨V, W, hs, HE⟩ : ∃ V W, Un2 u V W (Z a * ((2 ^ u : Nat) : Int) - Z q * Z b + Z q * ((2 ^ u : Nat) : Int)) N ∧ ∀ w bz b2 : _, bz < w.heap.size → b2 < w.heap.size → RatIs w bz R T → RatIs w b2 A2 B2 → Calls Tryd.prog 10 #[.pointer (some ⟨bz, 0, none⟩), .pointer (some ⟨bz, 0, none⟩), .pointer (some ⟨b2, 0, none⟩)] w (NormTo w bz V W) :=
    ⟨_, _, hd.sum (U2.two q2 q2') (M := N) (by omega), fun w bz b2 i1 i2 i3 i4 => addR_c w bz bz b2 R T R A2 T B2 M (by omega) hd.num (lift_le q2 (by omega)) hd.den (lift_ln q2' (by omega)) hd.pos U2.pos i1 i1 i2 i3 i3 i4⟩
  exact ⟨V, W, hs, fun w pa pq pb pb0 b0 t1 t2 => clo_4 w pa pq pb a q b A1 A2 A3 P R V B1 B2 B3 Q T W U1.pos U2.pos U3.pos hm.pos hd.pos t1.2.2.1 t2.2.2.1 t2.2.2.2 t1.1 t2.1 t2.2.1 HA HQ HB HC HD HE⟩

theorem units_of {u x y : Nat} {b : Bool} (h : holdsV u x y b) (hb : b = true) : ∃ g : Int, Z x * Z y = g * ((2 ^ u : Nat) : Int) := by
  obtain ⟨m, i, n, j, lx, ly, hij⟩ := h.1 hb
  obtain ⟨k, hk⟩ : ∃ k, i + j = k + u := ⟨i + j - u, by omega⟩
  have habs : (Z x * Z y).natAbs = m * n * 2 ^ k * 2 ^ u := by
    rw [Int.natAbs_mul, lx.eq, ly.eq, Nat.mul_assoc (m * n), ← Nat.pow_add, ← hk, Nat.pow_add]
    ac_rfl
  by_cases hneg : Z x * Z y < 0
  · refine ⟨-((m * n * 2 ^ k : Nat) : Int), ?_⟩
    rw [Int.neg_mul, ← Int.natCast_mul, ← habs]; omega
  · refine ⟨((m * n * 2 ^ k : Nat) : Int), ?_⟩
    rw [← Int.natCast_mul, ← habs]; omega

theorem any_some {o : Option Nat} {q f : Nat} (h : o = some q) (ha : Any o f) : f = q := ha.2.1 q h
theorem any_none {o : Option Nat} {f : Nat} (h : o = none) (ha : Any o f) : fin f = false := by
  have := ha.2.2 h
  unfold FT.nan at this
  have h2 := of_decide_eq_true this
  exact decide_eq_false (by omega)

/-- Where nothing is told. -/
theorem told_nothing1 (a b : Nat) : H1 a b 0 0 false false := fun w _ _ f _ _ => held_no w f _
theorem told_nothing2 (a b : Nat) : H2 a b 0 0 false false := fun w _ _ f _ _ => held_no w f _
theorem told_nothing3 (a b : Nat) : H3 a b 0 0 false false := fun w _ _ _ _ f _ _ _ => held_no w f _
theorem told_nothing4 (a b : Nat) : H4 a b 0 0 false false := fun w _ _ _ _ f _ _ _ => held_no w f _

/-- Sums. -/
theorem sum_all (a b : Nat) (ha : a < 2 ^ 64) (hb : b < 2 ^ 64) (fa : FT.rung a < FT.infR) (fb : FT.rung b < FT.infR) : ∃ s e ok, (∀ w, Calls Tryd.prog 7 #[.float .f64 a, .float .f64 b] w (Ret3 s e ok w)) ∧ H1 a b s e ok true ∧ ∀ f, Any (Ieee.double.add a b) f → fin f = true → ok = true := by
  obtain ⟨u, hu⟩ : ∃ u, u = 1074 := ⟨_, rfl⟩
  obtain ⟨s, hs, hr⟩ := EA.add_Z ha hb fa fb
  by_cases fs : FT.rung s < FT.infR
  · obtain ⟨x, hx, HS⟩ := sum_t a b s ha hb fa fb hs fs
    obtain ⟨R, T, h2, hc⟩ := sum_v a b u hu ha hb fa fb
    refine ⟨s, x, true, HS, fun w pa pb f ht hf => ?_, fun _ _ _ => rfl⟩
    obtain rfl := any_some hs hf
    refine held_1 w f x f u 69 true _ R T _ hu (by omega) hr.1 fs h2 (told_yes (z := Z a + Z b - Z f) ?_ hx) (fun w' g => hc w' pa pb (ht.G g))
    rw [Int.sub_mul, Int.add_mul]
  · refine ⟨0, 0, false, fun w => sum_no a b ha hb (fun q hq => ?_) w, fun w pa pb f ht hf => ?_, fun f hf h => ?_⟩
    · obtain rfl := any_some hs hq
      rw [show fin q = false from decide_eq_false fs, Bool.and_false, Bool.and_false]
    · obtain rfl := any_some hs hf
      exact held_inf w f _ hr.1 (decide_eq_false fs)
    · obtain rfl := any_some hs hf
      exact absurd (of_decide_eq_true h) fs
/-- Products. -/
theorem prod_all (a b : Nat) (ha : a < 2 ^ 64) (hb : b < 2 ^ 64) (fa : FT.rung a < FT.infR) (fb : FT.rung b < FT.infR) : ∃ s e ok, (∀ w, Tab w → Calls Tryd.prog 12 #[.float .f64 a, .float .f64 b] w (Ret3 s e ok w)) ∧ H2 a b s e ok true := by
  obtain ⟨u, hu⟩ : ∃ u, u = 1074 := ⟨_, rfl⟩
  obtain ⟨p, hp, p1, p2, -⟩ := EA.mul_Z ha hb fa fb u hu
  by_cases fp : FT.rung p < FT.infR
  · obtain ⟨hbl, hv, HH⟩ := holds_t u a b hu ha hb fa fb
    obtain ⟨R, T, h2, hc⟩ := prod_v a b u hu ha hb fa fb
    cases hbl
    · refine ⟨0, 0, false, fun w ht => prod_low a b p ha hb fa fb hp p1 fp HH w ht, fun w pa pb f ht hf => ?_⟩
      obtain rfl := any_some hp hf
      refine held_2 w 0 0 f u 68 false _ R T _ hu (by omega) p1 fp h2 (told_no fun z hz => ?_) (fun w' g => hc w' pa pb (ht.G g))
      refine hv.2 rfl (z + Z f) ?_
      rw [Int.add_mul, ← hz]; omega
    · obtain ⟨m, i, n, j, lx, ly, hij⟩ := hv.1 rfl
      obtain ⟨n1, n2, n3⟩ := negf_facts p p1
      obtain ⟨g, e, hg, he, hi⟩ := EA.prod_err ha hb fa fb hu lx ly hij hp fp n1 (by rw [n2]; exact fp) n3
      refine ⟨p, e, true, fun w ht => prod_t a b p ha hb fa fb hp p1 fp e he HH w ht, fun w pa pb f ht hf => ?_⟩
      obtain rfl := any_some hp hf
      refine held_2 w f e f u 68 true _ R T _ hu (by omega) p1 fp h2 (told_yes (z := g - Z f) ?_ hi) (fun w' g => hc w' pa pb (ht.G g))
      rw [Int.sub_mul, hg]
  · refine ⟨0, 0, false, fun w _ => prod_no a b ha hb (fun q hq => ?_) w, fun w pa pb f ht hf => ?_⟩
    · obtain rfl := any_some hp hq
      rw [show fin q = false from decide_eq_false fp, Bool.and_false, Bool.and_false]
    · obtain rfl := any_some hp hf
      exact held_inf w f _ p1 (decide_eq_false fp)

/-- A quotient by 0 is no finite float. -/
theorem div_zero {a b f : Nat} (fa : FT.rung a < FT.infR) (fb : FT.rung b < FT.infR) (h0 : Z b = 0) (hf : Any (Ieee.double.div a b) f) : fin f = false := by
  obtain ⟨m, p, ra, -, -, hm⟩ := FT.read_number fa
  obtain ⟨n, q, rb, -, -, hn⟩ := FT.read_number fb
  have hn0 : n = 0 := hn.2 (EA.Z_zero.1 h0)
  subst hn0
  by_cases hm0 : m = 0
  · refine any_none ?_ hf
    unfold Ieee.Format.div
    rw [ra, rb, hm0]
    rfl
  · have : Ieee.double.div a b = some (FT.wrd (FT.neg a ^^ FT.neg b) FT.infR) := by
      unfold Ieee.Format.div
      rw [ra, rb, ← write_inf]
      simp [Ieee.Datum.quotient, hm0]
    obtain rfl := any_some this hf
    have hl := EA.infR_lt
    exact decide_eq_false (by rw [FT.wrd_rung _ _ hl]; omega)
/-- Quotients. -/
theorem quo_all (a b : Nat) (ha : a < 2 ^ 64) (hb : b < 2 ^ 64) (fa : FT.rung a < FT.infR) (fb : FT.rung b < FT.infR) : ∃ s e ok, (∀ w, Tab w → Calls Tryd.prog 15 #[.float .f64 a, .float .f64 b] w (Ret3 s e ok w)) ∧ H3 a b s e ok true := by
  obtain ⟨u, hu⟩ : ∃ u, u = 1074 := ⟨_, rfl⟩
  by_cases h0 : Z b = 0
  · refine ⟨0, 0, false, fun w _ => quo_no a b ha hb (fun q hq => ?_) w, fun w pa pq pb pb0 f t1 t2 hf => ?_⟩
    · rw [div_zero fa fb h0 hq, Bool.and_false, Bool.and_false]
    · exact held_inf w f _ hf.1 (div_zero fa fb h0 hf)
  · obtain ⟨q, hq, q1, q2, -⟩ := EA.div_told ha hb fa fb hu h0
    by_cases fq : FT.rung q < FT.infR
    · obtain ⟨hbl, hv, HH⟩ := holds_t u q b hu q1 hb fq fb
      obtain ⟨V, W, h2, hc⟩ := rest_v a q b u hu ha q1 hb fa fq fb
      cases hbl
      · refine ⟨0, 0, false, fun w ht => quo_low a b q ha hb fa fb hq q1 fq HH w ht, fun w pa pq pb pb0 f t1 t2 hf => ?_⟩
        obtain rfl := any_some hq hf
        refine held_3 w 0 0 f u 138 false _ V W _ hu (by omega) q1 fq h2 (told_no fun z hz => ?_) (fun w' g => hc w' pa pq pb pb0 b (t1.G g) (t2.G g))
        refine hv.2 rfl (Z a - z) ?_
        rw [Int.sub_mul, ← hz]; omega
      · obtain ⟨g, hg⟩ := units_of hv rfl
        obtain ⟨n1, n2, n3⟩ := negf_facts q q1
        obtain ⟨e, he, hi⟩ := EA.quo_err ha hb fa fb hu h0 hq fq n1 (by rw [n2]; exact fq) n3 hg
        refine ⟨q, e, true, fun w ht => quo_t a b q ha hb fa fb hq q1 fq e he HH w ht, fun w pa pq pb pb0 f t1 t2 hf => ?_⟩
        obtain rfl := any_some hq hf
        refine held_3 w f e f u 138 true _ V W _ hu (by omega) q1 fq h2 (told_yes (z := Z a - g) ?_ hi) (fun w' g => hc w' pa pq pb pb0 b (t1.G g) (t2.G g))
        rw [Int.sub_mul, ← hg]; omega
    · refine ⟨0, 0, false, fun w _ => quo_no a b ha hb (fun s hs => ?_) w, fun w pa pq pb pb0 f t1 t2 hf => ?_⟩
      · obtain rfl := any_some hq hs
        rw [show fin s = false from decide_eq_false fq, Bool.and_false, Bool.and_false]
      · obtain rfl := any_some hq hf
        exact held_inf w f _ q1 (decide_eq_false fq)

/-- A root of what is below 0 is no number. -/
theorem sqrt_none {a : Nat} (fa : FT.rung a < FT.infR) (hn : FT.neg a = true) (h0 : FT.rung a ≠ 0) : Ieee.double.sqrt a = none := by
  obtain ⟨m, p, ra, -, -, hm⟩ := FT.read_number fa
  unfold Ieee.Format.sqrt
  rw [ra, hn]
  have : m ≠ 0 := fun h => h0 (hm.1 h)
  simp [Ieee.Datum.root, this]
/-- Roots. -/
theorem root_all (a b : Nat) (ha : a < 2 ^ 64) (fa : FT.rung a < FT.infR) : ∃ s e ok, (∀ w, Tab w → Calls Tryd.prog 19 #[.float .f64 a] w (Ret3 s e ok w)) ∧ H4 a b s e ok true := by
  obtain ⟨u, hu⟩ : ∃ u, u = 1074 := ⟨_, rfl⟩
  by_cases hneg : FT.neg a = true ∧ FT.rung a ≠ 0
  · have hn := sqrt_none fa hneg.1 hneg.2
    refine ⟨0, 0, false, fun w _ => root_no a ha (fun s hs => ?_) w, fun w pa pq pb pb0 f t1 t2 hf => ?_⟩
    · rw [any_none hn hs, Bool.and_false]
    · exact held_inf w f _ hf.1 (any_none hn hf)
  · have hsx : FT.neg a = false ∨ FT.rung a = 0 := by
      by_cases h : FT.rung a = 0
      · exact Or.inr h
      · left
        cases hx : FT.neg a
        · rfl
        · exact absurd ⟨hx, h⟩ hneg
    obtain ⟨s, hs, s1, s2, -⟩ := EA.sqrt_told ha fa hu hsx
    by_cases fs : FT.rung s < FT.infR
    · obtain ⟨hbl, hv, HH⟩ := holds_t u s s hu s1 s1 fs fs
      obtain ⟨V, W, h2, hc⟩ := rest_v a s s u hu ha s1 s1 fa fs fs
      cases hbl
      · refine ⟨0, 0, false, fun w ht => root_low a s ha fa hs s1 fs HH w ht, fun w pa pq pb pb0 f t1 t2 hf => ?_⟩
        obtain rfl := any_some hs hf
        refine held_3 w 0 0 f u 138 false _ V W _ hu (by omega) s1 fs h2 (told_no fun z hz => ?_) (fun w' g => hc w' pa pq pb pb0 b (t1.G g) (t2.G g))
        refine hv.2 rfl (Z a - z) ?_
        rw [Int.sub_mul, ← hz]; omega
      · obtain ⟨g, hg⟩ := units_of hv rfl
        obtain ⟨n1, n2, n3⟩ := negf_facts s s1
        obtain ⟨e, he, hi⟩ := EA.root_err ha fa hu hsx hs fs n1 (by rw [n2]; exact fs) n3 hg
        refine ⟨s, e, true, fun w ht => root_t a s ha fa hs s1 fs e he HH w ht, fun w pa pq pb pb0 f t1 t2 hf => ?_⟩
        obtain rfl := any_some hs hf
        refine held_3 w f e f u 138 true _ V W _ hu (by omega) s1 fs h2 (told_yes (z := Z a - g) ?_ hi) (fun w' g => hc w' pa pq pb pb0 b (t1.G g) (t2.G g))
        rw [Int.sub_mul, ← hg]; omega
    · refine ⟨0, 0, false, fun w _ => root_no a ha (fun q hq => ?_) w, fun w pa pq pb pb0 f t1 t2 hf => ?_⟩
      · obtain rfl := any_some hs hq
        rw [show fin q = false from decide_eq_false fs, Bool.and_false]
      · obtain rfl := any_some hs hf
        exact held_inf w f _ s1 (decide_eq_false fs)

/-- THE LAW EftSays. -/
theorem law_says (w : World) (a b : Nat) (ha : a < 2 ^ 64) (hb : b < 2 ^ 64) (ht : Tab w) :
    Calls Tryd.prog 3 #[.float .f64 a, .float .f64 b] w fun e w' => e = .returned (.bool true) ∧ G w w' := by
  by_cases fa : FT.rung a < FT.infR
  · obtain ⟨s4, e4, ok4, R1, R2⟩ := root_all a b ha fa
    by_cases fb : FT.rung b < FT.infR
    · obtain ⟨s1, e1, ok1, S1, S2, S3⟩ := sum_all a b ha hb fa fb
      obtain ⟨s2, e2, ok2, P1, P2⟩ := prod_all a b ha hb fa fb
      obtain ⟨s3, e3, ok3, Q1, Q2⟩ := quo_all a b ha hb fa fb
      refine says_tt w a b s1 e1 s2 e2 s3 e3 s4 e4 ok1 ok2 ok3 ok4 ht ?_ S1 P1 Q1 R1 S2 P2 Q2 R2 S3
      rintro x r w (⟨rfl, rfl⟩ | ⟨rfl, rfl⟩)
      · have h := finite_c x w ha
        rw [decide_eq_true fa] at h
        exact h
      · have h := finite_c x w hb
        rw [decide_eq_true fb] at h
        exact h
    · have hfb : fin b = false := decide_eq_false fb
      refine says_tf w a b 0 0 0 0 0 0 s4 e4 false false false ok4 ht ?_ (fun w => sum_no a b ha hb (fun s _ => by rw [hfb, Bool.false_and, Bool.and_false]) w) (fun w _ => prod_no a b ha hb (fun s _ => by rw [hfb, Bool.false_and, Bool.and_false]) w)
        (fun w _ => quo_no a b ha hb (fun s _ => by rw [hfb, Bool.false_and, Bool.and_false]) w) R1 (told_nothing1 a b) (told_nothing2 a b) (told_nothing3 a b) R2
      rintro x r w (⟨rfl, rfl⟩ | ⟨rfl, rfl⟩)
      · have h := finite_c x w ha
        rw [decide_eq_true fa] at h
        exact h
      · have h := finite_c x w hb
        rw [decide_eq_false fb] at h
        exact h
  · have hfa : fin a = false := decide_eq_false fa
    refine says_f w a b 0 0 0 0 0 0 0 0 false false false false ht ?_ (fun w => sum_no a b ha hb (fun s _ => by rw [hfa, Bool.false_and]) w) (fun w _ => prod_no a b ha hb (fun s _ => by rw [hfa, Bool.false_and]) w)
      (fun w _ => quo_no a b ha hb (fun s _ => by rw [hfa, Bool.false_and]) w) (fun w _ => root_no a ha (fun s _ => by rw [hfa, Bool.false_and]) w) (told_nothing1 a b) (told_nothing2 a b) (told_nothing3 a b) (told_nothing4 a b)
    rintro x r w ⟨rfl, rfl⟩
    have h := finite_c x w ha
    rw [decide_eq_false fa] at h
    exact h
end Go.Proofs.YtkelfdhpekkiaacDoor
