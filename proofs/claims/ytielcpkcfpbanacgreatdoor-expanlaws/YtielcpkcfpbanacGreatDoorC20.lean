/- What is proved here: contracts of package exact: sums and products of whole numbers, over this seat's translation.
What is proved here: contracts of package exact: fractions are made, over this seat's translation.
What is proved here: contracts of package exact: products of fractions, over this seat's translation.
What is proved here: contracts of package exact: sign, opposite, quotient of fractions, over this seat's translation. -/
import Derived.Test.YtielcpkcfpbanacGreatDoorC19
namespace Go.Proofs.YtielcpkcfpbanacGreatDoor.EN
open Go.ChangeShapes Go.WideShapes Go.ChangeAt Go.RowKit

theorem wtimes_c (w : World) (v u : Value) (s : Bool) (n m K : Nat) (hK : K ≤ 400000) (h : WholeS w v s n) (hu : Num w u m) (hn : n < 2 ^ (64 * K)) (hm : m < 2 ^ (64 * K)) :
    Calls Tryz.prog 102 #[v, u] w (RetWhole w (sgn s n * m)) := by
  obtain ⟨a, k, c, rfl, hv⟩ := h
  have HT : Hid (∀ w1, G w w1 → _) := fun w1 g => times_c w1 (.slice a k c) u n m K (by omega) (hv.G g) (hu.G g) hn hm
  have HS : Hid (∀ w1 v, Num w1 v (n * m) → Calls Tryz.prog 101 #[.bool s, v] w1 (RetWhole w1 (sgn s n * m))) := fun w1 v hv => by
    have h := signed_c w1 v s _ hv
    rw [show sgn s (n * m) = sgn s n * m from by unfold sgn; cases s <;> simp [Int.neg_mul]] at h
    exact h
  generalize n * m = q at *
  generalize sgn s n * m = y at *
  clear hv hu hn hm
  go_enter Tryz.func102, Tryz.ntmps102
  go_wp2_with fail
  have g0 : G w (World.alloc (w.alloc (.cells #[.bool s, .slice a k c] 94)) (.cells #[.bool false, .slice none 0 0] 94)) := (((G.refl w).alloc _).alloc _)
  have R0 : Hid (Rec (World.alloc (w.alloc (.cells #[.bool s, .slice a k c] 94)) (.cells #[.bool false, .slice none 0 0] 94)) (w.heap.size) [.bool s, .slice a k c]) := by
    have h := Rec.new2 w (.bool s) (.slice a k c) 94
    exact (Rec.G h ((G.refl (w.alloc (.cells #[.bool s, .slice a k c] 94))).alloc (.cells #[.bool false, .slice none 0 0] 94)))
  have R1 : Hid (Rec (World.alloc (w.alloc (.cells #[.bool s, .slice a k c] 94)) (.cells #[.bool false, .slice none 0 0] 94)) (w.heap.size + 1) [.bool false, .slice none 0 0]) := by
    have h := Rec.new2 (w.alloc (.cells #[.bool s, .slice a k c] 94)) (.bool false) (.slice none 0 0) 94
    rw [show (w.alloc (.cells #[.bool s, .slice a k c] 94)).heap.size = w.heap.size + 1 from by simp] at h
    exact h
  have hz0 : (World.alloc (w.alloc (.cells #[.bool s, .slice a k c] 94)) (.cells #[.bool false, .slice none 0 0] 94)).heap.size = w.heap.size + 2 := by simp
  generalize (World.alloc (w.alloc (.cells #[.bool s, .slice a k c] 94)) (.cells #[.bool false, .slice none 0 0] 94)) = w0 at *
  refine region_each 7 1 #[true, true, true, true, true, true, true, false] [.is (.pointer (some ⟨w.heap.size, 0, none⟩)), .is (.bool s), .is (.pointer (some ⟨w.heap.size, 1, none⟩)), .is (.slice a k c), .is (u), .any (fun v w' => Num w' v (q)), .any (fun v w' => WholeIs w' v (y))] [some 5, some 6, some 7, some 8, some 9, some 10, some 11] (by kernel_rfl) (by kernel_rfl) rfl (by kernel_rfl) (by repeat (first | exact trivial | refine ⟨fun _ _ _ g h => by first | exact h.G g | exact fun w3 g3 => h w3 (G.trans g g3), ?_⟩)) (by kernel_rfl) (by kernel_rfl) ?_
  refine Letters.is ?_
  refine Letters.is ?_
  refine Letters.is ?_
  refine Letters.is ?_
  refine Letters.is ?_
  refine Letters.any fun v5 => ?_
  refine Letters.any fun v6 => ?_
  refine Letters.nil ?_
  intro A hA
  simp only [fillD, Act.put, List.setIfInBounds_toArray, List.set_cons_zero, List.set_cons_succ] at hA
  subst hA
  refine ⟨?_, ?_⟩
  · skip
    refine Eaches.cons rfl ?_ ?_
    · intro W hW hD K hK
      clear hD
      go_simp
      exact hK.out _ _ ⟨_, by first | (simp only [Act.put, List.setIfInBounds_toArray, List.set_cons_zero, List.set_cons_succ]; done) | simp only [Act.put, List.setIfInBounds_toArray, List.set_cons_zero, List.set_cons_succ, *], G.refl _, rfl⟩
    refine Eaches.cons rfl ?_ ?_
    · intro W hW hD K hK
      clear hD
      have hR0 := Rec.f2 (Rec.G R0.out hW)
      have hR0_0 := hR0.1
      have hR0_1 := hR0.2.1
      clear hR0
      go_simp
      exact hK.out _ _ ⟨_, by first | (simp only [Act.put, List.setIfInBounds_toArray, List.set_cons_zero, List.set_cons_succ]; done) | simp only [Act.put, List.setIfInBounds_toArray, List.set_cons_zero, List.set_cons_succ, *], G.refl _, rfl⟩
    refine Eaches.cons rfl ?_ ?_
    · intro W hW hD K hK
      clear hD
      go_simp
      exact hK.out _ _ ⟨_, by first | (simp only [Act.put, List.setIfInBounds_toArray, List.set_cons_zero, List.set_cons_succ]; done) | simp only [Act.put, List.setIfInBounds_toArray, List.set_cons_zero, List.set_cons_succ, *], G.refl _, rfl⟩
    refine Eaches.cons rfl ?_ ?_
    · intro W hW hD K hK
      clear hD
      have hR0 := Rec.f2 (Rec.G R0.out hW)
      have hR0_0 := hR0.1
      have hR0_1 := hR0.2.1
      clear hR0
      go_simp
      exact hK.out _ _ ⟨_, by first | (simp only [Act.put, List.setIfInBounds_toArray, List.set_cons_zero, List.set_cons_succ]; done) | simp only [Act.put, List.setIfInBounds_toArray, List.set_cons_zero, List.set_cons_succ, *], G.refl _, rfl⟩
    refine Eaches.cons rfl ?_ ?_
    · intro W hW hD K hK
      clear hD
      go_simp
      exact hK.out _ _ ⟨_, by first | (simp only [Act.put, List.setIfInBounds_toArray, List.set_cons_zero, List.set_cons_succ]; done) | simp only [Act.put, List.setIfInBounds_toArray, List.set_cons_zero, List.set_cons_succ, *], G.refl _, rfl⟩
    refine Eaches.cons rfl ?_ ?_
    · intro W hW hD K hK
      clear hD
      go_simp
      go_wp2_with (go_at_call 99; refine Calls.mono (P := Tryz.prog) (HT.out W (G.trans g0 hW)) ?_; intro e w9 hs; obtain ⟨u9, rfl, g9, hn9⟩ := hs)
      exact hK.out _ _ ⟨_, by first | (simp only [Act.put, List.setIfInBounds_toArray, List.set_cons_zero, List.set_cons_succ]; done) | simp only [Act.put, List.setIfInBounds_toArray, List.set_cons_zero, List.set_cons_succ, *], g9, hn9⟩
    refine Eaches.cons rfl ?_ ?_
    · intro W hW hD K hK
      have h5 := Deps.get (v := v5) 5 hD rfl rfl (by kernel_rfl)
      clear hD
      go_simp
      go_wp2_with (go_at_call 101; refine Calls.mono (P := Tryz.prog) (HS.out W v5 h5) ?_; intro e w9 hs; obtain ⟨u9, rfl, g9, hn9⟩ := hs)
      exact hK.out _ _ ⟨_, by first | (simp only [Act.put, List.setIfInBounds_toArray, List.set_cons_zero, List.set_cons_succ]; done) | simp only [Act.put, List.setIfInBounds_toArray, List.set_cons_zero, List.set_cons_succ, *], g9, hn9⟩
    exact Eaches.nil
  intro w1 g1 hH
  have h6 := Helds.get (v := v6) 6 hH rfl rfl
  clear hH
  clear HT HS
  obtain ⟨a9, k9, c9, rfl, hm9⟩ := h6
  have HN9 : Hid (Num w1 (.slice a9 k9 c9) (y).natAbs) := hm9
  obtain ⟨t9, ht9⟩ : ∃ t, t = decide ((y) < 0) := ⟨_, rfl⟩
  rw [← ht9]
  have HT9 : Hid (t9 = decide ((y) < 0)) := ht9
  clear hm9 ht9
  have hS := Rec.f2 (Rec.G R1.out (g1))
  have hS_0 := hS.1
  have hS_1 := hS.2.1
  have hS_2 := hS.2.2.1
  have hS_3 := hS.2.2.2
  clear hS
  refine wpAny_ready (rs := [7]) (by kernel_rfl) (by simp) ?_
  refine AllReady.cons rfl (fun K hK => ?_) AllReady.nil
  go_simp
  refine hK _ _ ?_
  clear hK K hS_0 hS_1 hS_2 hS_3
  refine wpAny_done (by kernel_rfl) ?_ _
  have HN9' : Num _ _ _ := num_set2 (u1 := .bool t9) (u2 := .slice a9 k9 c9) HN9.out (Rec.G R1.out (g1)) trivial trivial
  go_wp2_with fail
  have hT : Hid (Rec (World.setCell (World.setCell w1 ⟨w.heap.size + 1, 0, none⟩ (.bool t9)) ⟨w.heap.size + 1, 1, none⟩ (.slice a9 k9 c9)) (w.heap.size + 1) [.bool t9, .slice a9 k9 c9]) := Rec.set2 (Rec.G R1.out (g1))
  have g9 := Rec.g2 (b := w.heap.size + 1) (u := .bool t9) (v := .slice a9 k9 c9) (G.trans g0 g1) (by omega)
  generalize (World.setCell (World.setCell w1 ⟨w.heap.size + 1, 0, none⟩ (.bool t9)) ⟨w.heap.size + 1, 1, none⟩ (.slice a9 k9 c9)) = w9 at *
  have hF := Rec.f2 (Rec.G hT.out ((G.refl _)))
  have hF_0 := hF.1
  have hF_1 := hF.2.1
  have hF_2 := hF.2.2.1
  have hF_3 := hF.2.2.2
  clear hF
  refine bodyPost_ret (v := .agg #[.bool t9, .slice a9 k9 c9]) (by simp [results, Tryz.results102, go_sem, *]) rfl ?_
  exact ⟨_, rfl, g9, a9, k9, c9, by rw [← HT9.out], HN9'⟩

theorem wplus_c (w : World) (v u : Value) (s t : Bool) (n m K : Nat) (hK : K ≤ 400000) (h : WholeS w v s n) (hu : WholeS w u t m) (hn : n < 2 ^ (64 * K)) (hm : m < 2 ^ (64 * K)) :
    Calls Tryz.prog 120 #[v, u] w (RetWhole w (sgn s n + sgn t m)) := by
  obtain ⟨a, k, c, rfl, hv⟩ := h
  obtain ⟨a', k', c', rfl, hu⟩ := hu
  by_cases hst : s = t
  · have HT : Hid (∀ w1, G w w1 → _) := fun w1 g => plus_c w1 (.slice a k c) (.slice a' k' c') n m K (by omega) (hv.G g) (hu.G g) hn hm
    have HS : Hid (∀ w1 v, Num w1 v (n + m) → Calls Tryz.prog 101 #[.bool s, v] w1 (RetWhole w1 (sgn s n + sgn t m))) := fun w1 v hv => by
      have h := signed_c w1 v s _ hv
      rw [show sgn s (n + m) = sgn s n + sgn t m from by rw [← hst]; unfold sgn; cases s <;> simp; omega] at h
      exact h
    have hte : (s == t) = true := by rw [hst]; simp
    generalize n + m = q at *
    generalize sgn s n + sgn t m = y at *
    clear hv hu hn hm hst
    go_enter Tryz.func120, Tryz.ntmps120
    go_wp2_with fail
    have g0 : G w (World.alloc (World.alloc (w.alloc (.cells #[.bool s, .slice a k c] 94)) (.cells #[.bool t, .slice a' k' c'] 94)) (.cells #[.bool false, .slice none 0 0] 94)) := ((((G.refl w).alloc _).alloc _).alloc _)
    have R0 : Hid (Rec (World.alloc (World.alloc (w.alloc (.cells #[.bool s, .slice a k c] 94)) (.cells #[.bool t, .slice a' k' c'] 94)) (.cells #[.bool false, .slice none 0 0] 94)) (w.heap.size) [.bool s, .slice a k c]) := by
      have h := Rec.new2 w (.bool s) (.slice a k c) 94
      exact (Rec.G (Rec.G h ((G.refl (w.alloc (.cells #[.bool s, .slice a k c] 94))).alloc (.cells #[.bool t, .slice a' k' c'] 94))) ((G.refl (World.alloc (w.alloc (.cells #[.bool s, .slice a k c] 94)) (.cells #[.bool t, .slice a' k' c'] 94))).alloc (.cells #[.bool false, .slice none 0 0] 94)))
    have R1 : Hid (Rec (World.alloc (World.alloc (w.alloc (.cells #[.bool s, .slice a k c] 94)) (.cells #[.bool t, .slice a' k' c'] 94)) (.cells #[.bool false, .slice none 0 0] 94)) (w.heap.size + 1) [.bool t, .slice a' k' c']) := by
      have h := Rec.new2 (w.alloc (.cells #[.bool s, .slice a k c] 94)) (.bool t) (.slice a' k' c') 94
      rw [show (w.alloc (.cells #[.bool s, .slice a k c] 94)).heap.size = w.heap.size + 1 from by simp] at h
      exact (Rec.G h ((G.refl (World.alloc (w.alloc (.cells #[.bool s, .slice a k c] 94)) (.cells #[.bool t, .slice a' k' c'] 94))).alloc (.cells #[.bool false, .slice none 0 0] 94)))
    have R2 : Hid (Rec (World.alloc (World.alloc (w.alloc (.cells #[.bool s, .slice a k c] 94)) (.cells #[.bool t, .slice a' k' c'] 94)) (.cells #[.bool false, .slice none 0 0] 94)) (w.heap.size + 2) [.bool false, .slice none 0 0]) := by
      have h := Rec.new2 (World.alloc (w.alloc (.cells #[.bool s, .slice a k c] 94)) (.cells #[.bool t, .slice a' k' c'] 94)) (.bool false) (.slice none 0 0) 94
      rw [show (World.alloc (w.alloc (.cells #[.bool s, .slice a k c] 94)) (.cells #[.bool t, .slice a' k' c'] 94)).heap.size = w.heap.size + 2 from by simp] at h
      exact h
    have hz0 : (World.alloc (World.alloc (w.alloc (.cells #[.bool s, .slice a k c] 94)) (.cells #[.bool t, .slice a' k' c'] 94)) (.cells #[.bool false, .slice none 0 0] 94)).heap.size = w.heap.size + 3 := by simp
    generalize (World.alloc (World.alloc (w.alloc (.cells #[.bool s, .slice a k c] 94)) (.cells #[.bool t, .slice a' k' c'] 94)) (.cells #[.bool false, .slice none 0 0] 94)) = w0 at *
    have hr0 := Rec.f2 R0.out
    have hr1 := Rec.f2 R1.out
    have hq0 := hr0.1
    have hq1 := hr0.2.1
    have hq2 := hr1.1
    have hq3 := hr1.2.1
    clear hr0 hr1
    go_wp2_with fail
    clear hq0 hq1 hq2 hq3
    refine region_each 8 1 #[true, true, true, true, true, true, true, true, false] [.is (.pointer (some ⟨w.heap.size, 0, none⟩)), .is (.bool s), .is (.pointer (some ⟨w.heap.size, 1, none⟩)), .is (.slice a k c), .is (.pointer (some ⟨w.heap.size + 1, 1, none⟩)), .is (.slice a' k' c'), .any (fun v w' => Num w' v (q)), .any (fun v w' => WholeIs w' v (y))] [some 11, some 12, some 13, some 14, some 15, some 16, some 17, some 18] (by kernel_rfl) (by kernel_rfl) rfl (by kernel_rfl) (by repeat (first | exact trivial | refine ⟨fun _ _ _ g h => by first | exact h.G g | exact fun w3 g3 => h w3 (G.trans g g3), ?_⟩)) (by kernel_rfl) (by kernel_rfl) ?_
    refine Letters.is ?_
    refine Letters.is ?_
    refine Letters.is ?_
    refine Letters.is ?_
    refine Letters.is ?_
    refine Letters.is ?_
    refine Letters.any fun v6 => ?_
    refine Letters.any fun v7 => ?_
    refine Letters.nil ?_
    intro A hA
    simp only [fillD, Act.put, List.setIfInBounds_toArray, List.set_cons_zero, List.set_cons_succ] at hA
    subst hA
    refine ⟨?_, ?_⟩
    · skip
      refine Eaches.cons rfl ?_ ?_
      · intro W hW hD K hK
        clear hD
        go_simp
        exact hK.out _ _ ⟨_, by first | (simp only [Act.put, List.setIfInBounds_toArray, List.set_cons_zero, List.set_cons_succ]; done) | simp only [Act.put, List.setIfInBounds_toArray, List.set_cons_zero, List.set_cons_succ, *], G.refl _, rfl⟩
      refine Eaches.cons rfl ?_ ?_
      · intro W hW hD K hK
        clear hD
        have hR0 := Rec.f2 (Rec.G R0.out hW)
        have hR0_0 := hR0.1
        have hR0_1 := hR0.2.1
        clear hR0
        have hR1 := Rec.f2 (Rec.G R1.out hW)
        have hR1_0 := hR1.1
        have hR1_1 := hR1.2.1
        clear hR1
        go_simp
        exact hK.out _ _ ⟨_, by first | (simp only [Act.put, List.setIfInBounds_toArray, List.set_cons_zero, List.set_cons_succ]; done) | simp only [Act.put, List.setIfInBounds_toArray, List.set_cons_zero, List.set_cons_succ, *], G.refl _, rfl⟩
      refine Eaches.cons rfl ?_ ?_
      · intro W hW hD K hK
        clear hD
        go_simp
        exact hK.out _ _ ⟨_, by first | (simp only [Act.put, List.setIfInBounds_toArray, List.set_cons_zero, List.set_cons_succ]; done) | simp only [Act.put, List.setIfInBounds_toArray, List.set_cons_zero, List.set_cons_succ, *], G.refl _, rfl⟩
      refine Eaches.cons rfl ?_ ?_
      · intro W hW hD K hK
        clear hD
        have hR0 := Rec.f2 (Rec.G R0.out hW)
        have hR0_0 := hR0.1
        have hR0_1 := hR0.2.1
        clear hR0
        have hR1 := Rec.f2 (Rec.G R1.out hW)
        have hR1_0 := hR1.1
        have hR1_1 := hR1.2.1
        clear hR1
        go_simp
        exact hK.out _ _ ⟨_, by first | (simp only [Act.put, List.setIfInBounds_toArray, List.set_cons_zero, List.set_cons_succ]; done) | simp only [Act.put, List.setIfInBounds_toArray, List.set_cons_zero, List.set_cons_succ, *], G.refl _, rfl⟩
      refine Eaches.cons rfl ?_ ?_
      · intro W hW hD K hK
        clear hD
        go_simp
        exact hK.out _ _ ⟨_, by first | (simp only [Act.put, List.setIfInBounds_toArray, List.set_cons_zero, List.set_cons_succ]; done) | simp only [Act.put, List.setIfInBounds_toArray, List.set_cons_zero, List.set_cons_succ, *], G.refl _, rfl⟩
      refine Eaches.cons rfl ?_ ?_
      · intro W hW hD K hK
        clear hD
        have hR0 := Rec.f2 (Rec.G R0.out hW)
        have hR0_0 := hR0.1
        have hR0_1 := hR0.2.1
        clear hR0
        have hR1 := Rec.f2 (Rec.G R1.out hW)
        have hR1_0 := hR1.1
        have hR1_1 := hR1.2.1
        clear hR1
        go_simp
        exact hK.out _ _ ⟨_, by first | (simp only [Act.put, List.setIfInBounds_toArray, List.set_cons_zero, List.set_cons_succ]; done) | simp only [Act.put, List.setIfInBounds_toArray, List.set_cons_zero, List.set_cons_succ, *], G.refl _, rfl⟩
      refine Eaches.cons rfl ?_ ?_
      · intro W hW hD K hK
        clear hD
        go_simp
        go_wp2_with (go_at_call 174; refine Calls.mono (P := Tryz.prog) (HT.out W (G.trans g0 hW)) ?_; intro e w9 hs; obtain ⟨u9, rfl, g9, hn9⟩ := hs)
        exact hK.out _ _ ⟨_, by first | (simp only [Act.put, List.setIfInBounds_toArray, List.set_cons_zero, List.set_cons_succ]; done) | simp only [Act.put, List.setIfInBounds_toArray, List.set_cons_zero, List.set_cons_succ, *], g9, hn9⟩
      refine Eaches.cons rfl ?_ ?_
      · intro W hW hD K hK
        have h6 := Deps.get (v := v6) 6 hD rfl rfl (by kernel_rfl)
        clear hD
        go_simp
        go_wp2_with (go_at_call 101; refine Calls.mono (P := Tryz.prog) (HS.out W v6 h6) ?_; intro e w9 hs; obtain ⟨u9, rfl, g9, hn9⟩ := hs)
        exact hK.out _ _ ⟨_, by first | (simp only [Act.put, List.setIfInBounds_toArray, List.set_cons_zero, List.set_cons_succ]; done) | simp only [Act.put, List.setIfInBounds_toArray, List.set_cons_zero, List.set_cons_succ, *], g9, hn9⟩
      exact Eaches.nil
    intro w1 g1 hH
    have h7 := Helds.get (v := v7) 7 hH rfl rfl
    clear hH
    clear HT HS
    obtain ⟨a9, k9, c9, rfl, hm9⟩ := h7
    have HN9 : Hid (Num w1 (.slice a9 k9 c9) (y).natAbs) := hm9
    obtain ⟨t9, ht9⟩ : ∃ t, t = decide ((y) < 0) := ⟨_, rfl⟩
    rw [← ht9]
    have HT9 : Hid (t9 = decide ((y) < 0)) := ht9
    clear hm9 ht9
    have hS := Rec.f2 (Rec.G R2.out (g1))
    have hS_0 := hS.1
    have hS_1 := hS.2.1
    have hS_2 := hS.2.2.1
    have hS_3 := hS.2.2.2
    clear hS
    refine wpAny_ready (rs := [8]) (by kernel_rfl) (by simp) ?_
    refine AllReady.cons rfl (fun K hK => ?_) AllReady.nil
    go_simp
    refine hK _ _ ?_
    clear hK K hS_0 hS_1 hS_2 hS_3
    refine wpAny_done (by kernel_rfl) ?_ _
    have HN9' : Num _ _ _ := num_set2 (u1 := .bool t9) (u2 := .slice a9 k9 c9) HN9.out (Rec.G R2.out (g1)) trivial trivial
    go_wp2_with fail
    have hT : Hid (Rec (World.setCell (World.setCell w1 ⟨w.heap.size + 2, 0, none⟩ (.bool t9)) ⟨w.heap.size + 2, 1, none⟩ (.slice a9 k9 c9)) (w.heap.size + 2) [.bool t9, .slice a9 k9 c9]) := Rec.set2 (Rec.G R2.out (g1))
    have g9 := Rec.g2 (b := w.heap.size + 2) (u := .bool t9) (v := .slice a9 k9 c9) (G.trans g0 g1) (by omega)
    generalize (World.setCell (World.setCell w1 ⟨w.heap.size + 2, 0, none⟩ (.bool t9)) ⟨w.heap.size + 2, 1, none⟩ (.slice a9 k9 c9)) = w9 at *
    have hF := Rec.f2 (Rec.G hT.out ((G.refl _)))
    have hF_0 := hF.1
    have hF_1 := hF.2.1
    have hF_2 := hF.2.2.1
    have hF_3 := hF.2.2.2
    clear hF
    refine bodyPost_ret (v := .agg #[.bool t9, .slice a9 k9 c9]) (by simp [results, Tryz.results120, go_sem, *]) rfl ?_
    exact ⟨_, rfl, g9, a9, k9, c9, by rw [← HT9.out], HN9'⟩
  · have hte : (s == t) = false := by simp [hst]
    have HC : Hid (∀ w1, G w w1 → _) := fun w1 g => cmp_c w1 (.slice a k c) (.slice a' k' c') n m K (by omega) (hv.G g) (hu.G g) hn hm
    by_cases hlt : n < m
    · have HT : Hid (∀ w1, G w w1 → _) := fun w1 g => minus_c w1 (.slice a' k' c') (.slice a k c) m n K (by omega) (hu.G g) (hv.G g) hm (Nat.le_of_lt hlt)
      have HS : Hid (∀ w1 v, Num w1 v (m - n) → Calls Tryz.prog 101 #[.bool t, v] w1 (RetWhole w1 (sgn s n + sgn t m))) := fun w1 v hv => by
        have h := signed_c w1 v t _ hv
        rw [show sgn t (m - n) = sgn s n + sgn t m from by unfold sgn; cases s <;> cases t <;> simp at hst ⊢ <;> omega] at h
        exact h
      rw [show cmpV n m = -1 from by unfold cmpV; rw [if_pos hlt]] at HC
      generalize m - n = q at *
      generalize sgn s n + sgn t m = y at *
      clear hv hu hn hm hst hlt
      go_enter Tryz.func120, Tryz.ntmps120
      go_wp2_with fail
      have g0 : G w (World.alloc (World.alloc (w.alloc (.cells #[.bool s, .slice a k c] 94)) (.cells #[.bool t, .slice a' k' c'] 94)) (.cells #[.bool false, .slice none 0 0] 94)) := ((((G.refl w).alloc _).alloc _).alloc _)
      have R0 : Hid (Rec (World.alloc (World.alloc (w.alloc (.cells #[.bool s, .slice a k c] 94)) (.cells #[.bool t, .slice a' k' c'] 94)) (.cells #[.bool false, .slice none 0 0] 94)) (w.heap.size) [.bool s, .slice a k c]) := by
        have h := Rec.new2 w (.bool s) (.slice a k c) 94
        exact (Rec.G (Rec.G h ((G.refl (w.alloc (.cells #[.bool s, .slice a k c] 94))).alloc (.cells #[.bool t, .slice a' k' c'] 94))) ((G.refl (World.alloc (w.alloc (.cells #[.bool s, .slice a k c] 94)) (.cells #[.bool t, .slice a' k' c'] 94))).alloc (.cells #[.bool false, .slice none 0 0] 94)))
      have R1 : Hid (Rec (World.alloc (World.alloc (w.alloc (.cells #[.bool s, .slice a k c] 94)) (.cells #[.bool t, .slice a' k' c'] 94)) (.cells #[.bool false, .slice none 0 0] 94)) (w.heap.size + 1) [.bool t, .slice a' k' c']) := by
        have h := Rec.new2 (w.alloc (.cells #[.bool s, .slice a k c] 94)) (.bool t) (.slice a' k' c') 94
        rw [show (w.alloc (.cells #[.bool s, .slice a k c] 94)).heap.size = w.heap.size + 1 from by simp] at h
        exact (Rec.G h ((G.refl (World.alloc (w.alloc (.cells #[.bool s, .slice a k c] 94)) (.cells #[.bool t, .slice a' k' c'] 94))).alloc (.cells #[.bool false, .slice none 0 0] 94)))
      have R2 : Hid (Rec (World.alloc (World.alloc (w.alloc (.cells #[.bool s, .slice a k c] 94)) (.cells #[.bool t, .slice a' k' c'] 94)) (.cells #[.bool false, .slice none 0 0] 94)) (w.heap.size + 2) [.bool false, .slice none 0 0]) := by
        have h := Rec.new2 (World.alloc (w.alloc (.cells #[.bool s, .slice a k c] 94)) (.cells #[.bool t, .slice a' k' c'] 94)) (.bool false) (.slice none 0 0) 94
        rw [show (World.alloc (w.alloc (.cells #[.bool s, .slice a k c] 94)) (.cells #[.bool t, .slice a' k' c'] 94)).heap.size = w.heap.size + 2 from by simp] at h
        exact h
      have hz0 : (World.alloc (World.alloc (w.alloc (.cells #[.bool s, .slice a k c] 94)) (.cells #[.bool t, .slice a' k' c'] 94)) (.cells #[.bool false, .slice none 0 0] 94)).heap.size = w.heap.size + 3 := by simp
      generalize (World.alloc (World.alloc (w.alloc (.cells #[.bool s, .slice a k c] 94)) (.cells #[.bool t, .slice a' k' c'] 94)) (.cells #[.bool false, .slice none 0 0] 94)) = w0 at *
      have hr0 := Rec.f2 R0.out
      have hr1 := Rec.f2 R1.out
      have hq0 := hr0.1
      have hq1 := hr0.2.1
      have hq2 := hr1.1
      have hq3 := hr1.2.1
      clear hr0 hr1
      go_wp2_with fail
      refine Calls.mono (P := Tryz.prog) (HC.out w0 g0) ?_
      rintro e w3 ⟨rfl, g3⟩
      clear hq0 hq1 hq2 hq3
      have S0 : Hid _ := Rec.G R0.out g3
      have S1 : Hid _ := Rec.G R1.out g3
      go_wp2_with fail
      refine region_each 8 1 #[true, true, true, true, true, true, true, true, false] [.is (.pointer (some ⟨w.heap.size + 1, 0, none⟩)), .is (.bool t), .is (.pointer (some ⟨w.heap.size + 1, 1, none⟩)), .is (.slice a' k' c'), .is (.pointer (some ⟨w.heap.size, 1, none⟩)), .is (.slice a k c), .any (fun v w' => Num w' v (q)), .any (fun v w' => WholeIs w' v (y))] [some 26, some 27, some 28, some 29, some 30, some 31, some 32, some 33] (by kernel_rfl) (by kernel_rfl) rfl (by kernel_rfl) (by repeat (first | exact trivial | refine ⟨fun _ _ _ g h => by first | exact h.G g | exact fun w3 g3 => h w3 (G.trans g g3), ?_⟩)) (by kernel_rfl) (by kernel_rfl) ?_
      refine Letters.is ?_
      refine Letters.is ?_
      refine Letters.is ?_
      refine Letters.is ?_
      refine Letters.is ?_
      refine Letters.is ?_
      refine Letters.any fun v6 => ?_
      refine Letters.any fun v7 => ?_
      refine Letters.nil ?_
      intro A hA
      simp only [fillD, Act.put, List.setIfInBounds_toArray, List.set_cons_zero, List.set_cons_succ] at hA
      subst hA
      refine ⟨?_, ?_⟩
      · skip
        refine Eaches.cons rfl ?_ ?_
        · intro W hW hD K hK
          clear hD
          go_simp
          exact hK.out _ _ ⟨_, by first | (simp only [Act.put, List.setIfInBounds_toArray, List.set_cons_zero, List.set_cons_succ]; done) | simp only [Act.put, List.setIfInBounds_toArray, List.set_cons_zero, List.set_cons_succ, *], G.refl _, rfl⟩
        refine Eaches.cons rfl ?_ ?_
        · intro W hW hD K hK
          clear hD
          have hS0 := Rec.f2 (Rec.G S0.out hW)
          have hS0_0 := hS0.1
          have hS0_1 := hS0.2.1
          clear hS0
          have hS1 := Rec.f2 (Rec.G S1.out hW)
          have hS1_0 := hS1.1
          have hS1_1 := hS1.2.1
          clear hS1
          go_simp
          exact hK.out _ _ ⟨_, by first | (simp only [Act.put, List.setIfInBounds_toArray, List.set_cons_zero, List.set_cons_succ]; done) | simp only [Act.put, List.setIfInBounds_toArray, List.set_cons_zero, List.set_cons_succ, *], G.refl _, rfl⟩
        refine Eaches.cons rfl ?_ ?_
        · intro W hW hD K hK
          clear hD
          go_simp
          exact hK.out _ _ ⟨_, by first | (simp only [Act.put, List.setIfInBounds_toArray, List.set_cons_zero, List.set_cons_succ]; done) | simp only [Act.put, List.setIfInBounds_toArray, List.set_cons_zero, List.set_cons_succ, *], G.refl _, rfl⟩
        refine Eaches.cons rfl ?_ ?_
        · intro W hW hD K hK
          clear hD
          have hS0 := Rec.f2 (Rec.G S0.out hW)
          have hS0_0 := hS0.1
          have hS0_1 := hS0.2.1
          clear hS0
          have hS1 := Rec.f2 (Rec.G S1.out hW)
          have hS1_0 := hS1.1
          have hS1_1 := hS1.2.1
          clear hS1
          go_simp
          exact hK.out _ _ ⟨_, by first | (simp only [Act.put, List.setIfInBounds_toArray, List.set_cons_zero, List.set_cons_succ]; done) | simp only [Act.put, List.setIfInBounds_toArray, List.set_cons_zero, List.set_cons_succ, *], G.refl _, rfl⟩
        refine Eaches.cons rfl ?_ ?_
        · intro W hW hD K hK
          clear hD
          go_simp
          exact hK.out _ _ ⟨_, by first | (simp only [Act.put, List.setIfInBounds_toArray, List.set_cons_zero, List.set_cons_succ]; done) | simp only [Act.put, List.setIfInBounds_toArray, List.set_cons_zero, List.set_cons_succ, *], G.refl _, rfl⟩
        refine Eaches.cons rfl ?_ ?_
        · intro W hW hD K hK
          clear hD
          have hS0 := Rec.f2 (Rec.G S0.out hW)
          have hS0_0 := hS0.1
          have hS0_1 := hS0.2.1
          clear hS0
          have hS1 := Rec.f2 (Rec.G S1.out hW)
          have hS1_0 := hS1.1
          have hS1_1 := hS1.2.1
          clear hS1
          go_simp
          exact hK.out _ _ ⟨_, by first | (simp only [Act.put, List.setIfInBounds_toArray, List.set_cons_zero, List.set_cons_succ]; done) | simp only [Act.put, List.setIfInBounds_toArray, List.set_cons_zero, List.set_cons_succ, *], G.refl _, rfl⟩
        refine Eaches.cons rfl ?_ ?_
        · intro W hW hD K hK
          clear hD
          go_simp
          go_wp2_with (go_at_call 176; refine Calls.mono (P := Tryz.prog) (HT.out W (G.trans g0 (G.trans g3 hW))) ?_; intro e w9 hs; obtain ⟨u9, rfl, g9, hn9⟩ := hs)
          exact hK.out _ _ ⟨_, by first | (simp only [Act.put, List.setIfInBounds_toArray, List.set_cons_zero, List.set_cons_succ]; done) | simp only [Act.put, List.setIfInBounds_toArray, List.set_cons_zero, List.set_cons_succ, *], g9, hn9⟩
        refine Eaches.cons rfl ?_ ?_
        · intro W hW hD K hK
          have h6 := Deps.get (v := v6) 6 hD rfl rfl (by kernel_rfl)
          clear hD
          go_simp
          go_wp2_with (go_at_call 101; refine Calls.mono (P := Tryz.prog) (HS.out W v6 h6) ?_; intro e w9 hs; obtain ⟨u9, rfl, g9, hn9⟩ := hs)
          exact hK.out _ _ ⟨_, by first | (simp only [Act.put, List.setIfInBounds_toArray, List.set_cons_zero, List.set_cons_succ]; done) | simp only [Act.put, List.setIfInBounds_toArray, List.set_cons_zero, List.set_cons_succ, *], g9, hn9⟩
        exact Eaches.nil
      intro w1 g1 hH
      have h7 := Helds.get (v := v7) 7 hH rfl rfl
      clear hH
      clear HT HS
      obtain ⟨a9, k9, c9, rfl, hm9⟩ := h7
      have HN9 : Hid (Num w1 (.slice a9 k9 c9) (y).natAbs) := hm9
      obtain ⟨t9, ht9⟩ : ∃ t, t = decide ((y) < 0) := ⟨_, rfl⟩
      rw [← ht9]
      have HT9 : Hid (t9 = decide ((y) < 0)) := ht9
      clear hm9 ht9
      have hS := Rec.f2 (Rec.G R2.out (G.trans g3 g1))
      have hS_0 := hS.1
      have hS_1 := hS.2.1
      have hS_2 := hS.2.2.1
      have hS_3 := hS.2.2.2
      clear hS
      refine wpAny_ready (rs := [8]) (by kernel_rfl) (by simp) ?_
      refine AllReady.cons rfl (fun K hK => ?_) AllReady.nil
      go_simp
      refine hK _ _ ?_
      clear hK K hS_0 hS_1 hS_2 hS_3
      refine wpAny_done (by kernel_rfl) ?_ _
      have HN9' : Num _ _ _ := num_set2 (u1 := .bool t9) (u2 := .slice a9 k9 c9) HN9.out (Rec.G R2.out (G.trans g3 g1)) trivial trivial
      go_wp2_with fail
      have hT : Hid (Rec (World.setCell (World.setCell w1 ⟨w.heap.size + 2, 0, none⟩ (.bool t9)) ⟨w.heap.size + 2, 1, none⟩ (.slice a9 k9 c9)) (w.heap.size + 2) [.bool t9, .slice a9 k9 c9]) := Rec.set2 (Rec.G R2.out (G.trans g3 g1))
      have g9 := Rec.g2 (b := w.heap.size + 2) (u := .bool t9) (v := .slice a9 k9 c9) (G.trans g0 (G.trans g3 g1)) (by omega)
      generalize (World.setCell (World.setCell w1 ⟨w.heap.size + 2, 0, none⟩ (.bool t9)) ⟨w.heap.size + 2, 1, none⟩ (.slice a9 k9 c9)) = w9 at *
      have hF := Rec.f2 (Rec.G hT.out ((G.refl _)))
      have hF_0 := hF.1
      have hF_1 := hF.2.1
      have hF_2 := hF.2.2.1
      have hF_3 := hF.2.2.2
      clear hF
      refine bodyPost_ret (v := .agg #[.bool t9, .slice a9 k9 c9]) (by simp [results, Tryz.results120, go_sem, *]) rfl ?_
      exact ⟨_, rfl, g9, a9, k9, c9, by rw [← HT9.out], HN9'⟩
    · have HT : Hid (∀ w1, G w w1 → _) := fun w1 g => minus_c w1 (.slice a k c) (.slice a' k' c') n m K (by omega) (hv.G g) (hu.G g) hn (Nat.le_of_not_lt hlt)
      have HS : Hid (∀ w1 v, Num w1 v (n - m) → Calls Tryz.prog 101 #[.bool s, v] w1 (RetWhole w1 (sgn s n + sgn t m))) := fun w1 v hv => by
        have h := signed_c w1 v s _ hv
        rw [show sgn s (n - m) = sgn s n + sgn t m from by unfold sgn; cases s <;> cases t <;> simp at hst ⊢ <;> omega] at h
        exact h
      have hcv : decide (cmpV n m < 0) = false := by unfold cmpV; rw [if_neg hlt]; split <;> rfl
      generalize cmpV n m = cv at *
      generalize n - m = q at *
      generalize sgn s n + sgn t m = y at *
      clear hv hu hn hm hst hlt
      go_enter Tryz.func120, Tryz.ntmps120
      go_wp2_with fail
      have g0 : G w (World.alloc (World.alloc (w.alloc (.cells #[.bool s, .slice a k c] 94)) (.cells #[.bool t, .slice a' k' c'] 94)) (.cells #[.bool false, .slice none 0 0] 94)) := ((((G.refl w).alloc _).alloc _).alloc _)
      have R0 : Hid (Rec (World.alloc (World.alloc (w.alloc (.cells #[.bool s, .slice a k c] 94)) (.cells #[.bool t, .slice a' k' c'] 94)) (.cells #[.bool false, .slice none 0 0] 94)) (w.heap.size) [.bool s, .slice a k c]) := by
        have h := Rec.new2 w (.bool s) (.slice a k c) 94
        exact (Rec.G (Rec.G h ((G.refl (w.alloc (.cells #[.bool s, .slice a k c] 94))).alloc (.cells #[.bool t, .slice a' k' c'] 94))) ((G.refl (World.alloc (w.alloc (.cells #[.bool s, .slice a k c] 94)) (.cells #[.bool t, .slice a' k' c'] 94))).alloc (.cells #[.bool false, .slice none 0 0] 94)))
      have R1 : Hid (Rec (World.alloc (World.alloc (w.alloc (.cells #[.bool s, .slice a k c] 94)) (.cells #[.bool t, .slice a' k' c'] 94)) (.cells #[.bool false, .slice none 0 0] 94)) (w.heap.size + 1) [.bool t, .slice a' k' c']) := by
        have h := Rec.new2 (w.alloc (.cells #[.bool s, .slice a k c] 94)) (.bool t) (.slice a' k' c') 94
        rw [show (w.alloc (.cells #[.bool s, .slice a k c] 94)).heap.size = w.heap.size + 1 from by simp] at h
        exact (Rec.G h ((G.refl (World.alloc (w.alloc (.cells #[.bool s, .slice a k c] 94)) (.cells #[.bool t, .slice a' k' c'] 94))).alloc (.cells #[.bool false, .slice none 0 0] 94)))
      have R2 : Hid (Rec (World.alloc (World.alloc (w.alloc (.cells #[.bool s, .slice a k c] 94)) (.cells #[.bool t, .slice a' k' c'] 94)) (.cells #[.bool false, .slice none 0 0] 94)) (w.heap.size + 2) [.bool false, .slice none 0 0]) := by
        have h := Rec.new2 (World.alloc (w.alloc (.cells #[.bool s, .slice a k c] 94)) (.cells #[.bool t, .slice a' k' c'] 94)) (.bool false) (.slice none 0 0) 94
        rw [show (World.alloc (w.alloc (.cells #[.bool s, .slice a k c] 94)) (.cells #[.bool t, .slice a' k' c'] 94)).heap.size = w.heap.size + 2 from by simp] at h
        exact h
      have hz0 : (World.alloc (World.alloc (w.alloc (.cells #[.bool s, .slice a k c] 94)) (.cells #[.bool t, .slice a' k' c'] 94)) (.cells #[.bool false, .slice none 0 0] 94)).heap.size = w.heap.size + 3 := by simp
      generalize (World.alloc (World.alloc (w.alloc (.cells #[.bool s, .slice a k c] 94)) (.cells #[.bool t, .slice a' k' c'] 94)) (.cells #[.bool false, .slice none 0 0] 94)) = w0 at *
      have hr0 := Rec.f2 R0.out
      have hr1 := Rec.f2 R1.out
      have hq0 := hr0.1
      have hq1 := hr0.2.1
      have hq2 := hr1.1
      have hq3 := hr1.2.1
      clear hr0 hr1
      go_wp2_with fail
      refine Calls.mono (P := Tryz.prog) (HC.out w0 g0) ?_
      rintro e w3 ⟨rfl, g3⟩
      clear hq0 hq1 hq2 hq3
      have S0 : Hid _ := Rec.G R0.out g3
      have S1 : Hid _ := Rec.G R1.out g3
      go_wp2_with fail
      refine region_each 8 1 #[true, true, true, true, true, true, true, true, false] [.is (.pointer (some ⟨w.heap.size, 0, none⟩)), .is (.bool s), .is (.pointer (some ⟨w.heap.size, 1, none⟩)), .is (.slice a k c), .is (.pointer (some ⟨w.heap.size + 1, 1, none⟩)), .is (.slice a' k' c'), .any (fun v w' => Num w' v (q)), .any (fun v w' => WholeIs w' v (y))] [some 34, some 35, some 36, some 37, some 38, some 39, some 40, some 41] (by kernel_rfl) (by kernel_rfl) rfl (by kernel_rfl) (by repeat (first | exact trivial | refine ⟨fun _ _ _ g h => by first | exact h.G g | exact fun w3 g3 => h w3 (G.trans g g3), ?_⟩)) (by kernel_rfl) (by kernel_rfl) ?_
      refine Letters.is ?_
      refine Letters.is ?_
      refine Letters.is ?_
      refine Letters.is ?_
      refine Letters.is ?_
      refine Letters.is ?_
      refine Letters.any fun v6 => ?_
      refine Letters.any fun v7 => ?_
      refine Letters.nil ?_
      intro A hA
      simp only [fillD, Act.put, List.setIfInBounds_toArray, List.set_cons_zero, List.set_cons_succ] at hA
      subst hA
      refine ⟨?_, ?_⟩
      · skip
        refine Eaches.cons rfl ?_ ?_
        · intro W hW hD K hK
          clear hD
          go_simp
          exact hK.out _ _ ⟨_, by first | (simp only [Act.put, List.setIfInBounds_toArray, List.set_cons_zero, List.set_cons_succ]; done) | simp only [Act.put, List.setIfInBounds_toArray, List.set_cons_zero, List.set_cons_succ, *], G.refl _, rfl⟩
        refine Eaches.cons rfl ?_ ?_
        · intro W hW hD K hK
          clear hD
          have hS0 := Rec.f2 (Rec.G S0.out hW)
          have hS0_0 := hS0.1
          have hS0_1 := hS0.2.1
          clear hS0
          have hS1 := Rec.f2 (Rec.G S1.out hW)
          have hS1_0 := hS1.1
          have hS1_1 := hS1.2.1
          clear hS1
          go_simp
          exact hK.out _ _ ⟨_, by first | (simp only [Act.put, List.setIfInBounds_toArray, List.set_cons_zero, List.set_cons_succ]; done) | simp only [Act.put, List.setIfInBounds_toArray, List.set_cons_zero, List.set_cons_succ, *], G.refl _, rfl⟩
        refine Eaches.cons rfl ?_ ?_
        · intro W hW hD K hK
          clear hD
          go_simp
          exact hK.out _ _ ⟨_, by first | (simp only [Act.put, List.setIfInBounds_toArray, List.set_cons_zero, List.set_cons_succ]; done) | simp only [Act.put, List.setIfInBounds_toArray, List.set_cons_zero, List.set_cons_succ, *], G.refl _, rfl⟩
        refine Eaches.cons rfl ?_ ?_
        · intro W hW hD K hK
          clear hD
          have hS0 := Rec.f2 (Rec.G S0.out hW)
          have hS0_0 := hS0.1
          have hS0_1 := hS0.2.1
          clear hS0
          have hS1 := Rec.f2 (Rec.G S1.out hW)
          have hS1_0 := hS1.1
          have hS1_1 := hS1.2.1
          clear hS1
          go_simp
          exact hK.out _ _ ⟨_, by first | (simp only [Act.put, List.setIfInBounds_toArray, List.set_cons_zero, List.set_cons_succ]; done) | simp only [Act.put, List.setIfInBounds_toArray, List.set_cons_zero, List.set_cons_succ, *], G.refl _, rfl⟩
        refine Eaches.cons rfl ?_ ?_
        · intro W hW hD K hK
          clear hD
          go_simp
          exact hK.out _ _ ⟨_, by first | (simp only [Act.put, List.setIfInBounds_toArray, List.set_cons_zero, List.set_cons_succ]; done) | simp only [Act.put, List.setIfInBounds_toArray, List.set_cons_zero, List.set_cons_succ, *], G.refl _, rfl⟩
        refine Eaches.cons rfl ?_ ?_
        · intro W hW hD K hK
          clear hD
          have hS0 := Rec.f2 (Rec.G S0.out hW)
          have hS0_0 := hS0.1
          have hS0_1 := hS0.2.1
          clear hS0
          have hS1 := Rec.f2 (Rec.G S1.out hW)
          have hS1_0 := hS1.1
          have hS1_1 := hS1.2.1
          clear hS1
          go_simp
          exact hK.out _ _ ⟨_, by first | (simp only [Act.put, List.setIfInBounds_toArray, List.set_cons_zero, List.set_cons_succ]; done) | simp only [Act.put, List.setIfInBounds_toArray, List.set_cons_zero, List.set_cons_succ, *], G.refl _, rfl⟩
        refine Eaches.cons rfl ?_ ?_
        · intro W hW hD K hK
          clear hD
          go_simp
          go_wp2_with (go_at_call 176; refine Calls.mono (P := Tryz.prog) (HT.out W (G.trans g0 (G.trans g3 hW))) ?_; intro e w9 hs; obtain ⟨u9, rfl, g9, hn9⟩ := hs)
          exact hK.out _ _ ⟨_, by first | (simp only [Act.put, List.setIfInBounds_toArray, List.set_cons_zero, List.set_cons_succ]; done) | simp only [Act.put, List.setIfInBounds_toArray, List.set_cons_zero, List.set_cons_succ, *], g9, hn9⟩
        refine Eaches.cons rfl ?_ ?_
        · intro W hW hD K hK
          have h6 := Deps.get (v := v6) 6 hD rfl rfl (by kernel_rfl)
          clear hD
          go_simp
          go_wp2_with (go_at_call 101; refine Calls.mono (P := Tryz.prog) (HS.out W v6 h6) ?_; intro e w9 hs; obtain ⟨u9, rfl, g9, hn9⟩ := hs)
          exact hK.out _ _ ⟨_, by first | (simp only [Act.put, List.setIfInBounds_toArray, List.set_cons_zero, List.set_cons_succ]; done) | simp only [Act.put, List.setIfInBounds_toArray, List.set_cons_zero, List.set_cons_succ, *], g9, hn9⟩
        exact Eaches.nil
      intro w1 g1 hH
      have h7 := Helds.get (v := v7) 7 hH rfl rfl
      clear hH
      clear HT HS
      obtain ⟨a9, k9, c9, rfl, hm9⟩ := h7
      have HN9 : Hid (Num w1 (.slice a9 k9 c9) (y).natAbs) := hm9
      obtain ⟨t9, ht9⟩ : ∃ t, t = decide ((y) < 0) := ⟨_, rfl⟩
      rw [← ht9]
      have HT9 : Hid (t9 = decide ((y) < 0)) := ht9
      clear hm9 ht9
      have hS := Rec.f2 (Rec.G R2.out (G.trans g3 g1))
      have hS_0 := hS.1
      have hS_1 := hS.2.1
      have hS_2 := hS.2.2.1
      have hS_3 := hS.2.2.2
      clear hS
      refine wpAny_ready (rs := [8]) (by kernel_rfl) (by simp) ?_
      refine AllReady.cons rfl (fun K hK => ?_) AllReady.nil
      go_simp
      refine hK _ _ ?_
      clear hK K hS_0 hS_1 hS_2 hS_3
      refine wpAny_done (by kernel_rfl) ?_ _
      have HN9' : Num _ _ _ := num_set2 (u1 := .bool t9) (u2 := .slice a9 k9 c9) HN9.out (Rec.G R2.out (G.trans g3 g1)) trivial trivial
      go_wp2_with fail
      have hT : Hid (Rec (World.setCell (World.setCell w1 ⟨w.heap.size + 2, 0, none⟩ (.bool t9)) ⟨w.heap.size + 2, 1, none⟩ (.slice a9 k9 c9)) (w.heap.size + 2) [.bool t9, .slice a9 k9 c9]) := Rec.set2 (Rec.G R2.out (G.trans g3 g1))
      have g9 := Rec.g2 (b := w.heap.size + 2) (u := .bool t9) (v := .slice a9 k9 c9) (G.trans g0 (G.trans g3 g1)) (by omega)
      generalize (World.setCell (World.setCell w1 ⟨w.heap.size + 2, 0, none⟩ (.bool t9)) ⟨w.heap.size + 2, 1, none⟩ (.slice a9 k9 c9)) = w9 at *
      have hF := Rec.f2 (Rec.G hT.out ((G.refl _)))
      have hF_0 := hF.1
      have hF_1 := hF.2.1
      have hF_2 := hF.2.2.1
      have hF_3 := hF.2.2.2
      clear hF
      refine bodyPost_ret (v := .agg #[.bool t9, .slice a9 k9 c9]) (by simp [results, Tryz.results120, go_sem, *]) rfl ?_
      exact ⟨_, rfl, g9, a9, k9, c9, by rw [← HT9.out], HN9'⟩
end Go.Proofs.YtielcpkcfpbanacGreatDoor.EN
namespace Go.Proofs.YtielcpkcfpbanacGreatDoor.EN
open Go.ChangeShapes Go.WideShapes Go.ChangeAt Go.RowKit

/-- What is kept below the bar: nothing for 1. -/
def lowOf (d : Nat) : Nat := if d = 1 then 0 else d
/-- v is the fraction q. -/
def QIs (w : World) (v : Value) (q : Rat) : Prop := ∃ a k c a' k' c', v = .agg #[.bool (decide (q.num < 0)), .slice a k c, .slice a' k' c'] ∧ Num w (.slice a k c) q.num.natAbs ∧ Num w (.slice a' k' c') (lowOf q.den)
theorem QIs.G {w w' : World} {v : Value} {q : Rat} (h : QIs w v q) (g : G w w') : QIs w' v q := by
  obtain ⟨a, k, c, a', k', c', e, h2, h3⟩ := h
  exact ⟨a, k, c, a', k', c', e, h2.G g, h3.G g⟩
/-- A call hands back the fraction q. -/
def RetQ (w : World) (q : Rat) (e : Ending) (w' : World) : Prop := ∃ v, e = .returned v ∧ G w w' ∧ QIs w' v q
/-- Lowest terms are told by the number alone. -/
theorem rat_low {q : Rat} {z : Int} {d : Nat} (hd : 0 < d) (hc : Nat.gcd z.natAbs d = 1) (h : z * q.den = q.num * d) : q.num = z ∧ q.den = d := by
  have e : (Rat.mk' z d (by omega) hc) = q := by
    rw [Rat.mk_eq_divInt, ← Rat.num_divInt_den q, Rat.divInt_eq_divInt_iff (by omega) (by have := q.den_pos; omega)]
    exact h
  rw [← e]
  exact ⟨rfl, rfl⟩

theorem mk_cross {q : Rat} {n : Int} {d : Nat} (hd : 0 < d) (h : q = mkRat n d) : n * q.den = q.num * d := by
  have h2 : mkRat n d = mkRat q.num q.den := by rw [Rat.mkRat_self]; exact h.symm
  exact (Rat.mkRat_eq_iff (by omega) q.den_nz).1 h2
theorem num_nil (w : World) (a : Option Addr) (c : Nat) : Num w (.slice a 0 c) 0 := ⟨[], ⟨okw_nil, Or.inl ⟨rfl, _, _, rfl⟩⟩, canon_nil, rfl⟩
theorem q_zero (w : World) : QIs w (.agg #[.bool false, .slice none 0 0, .slice none 0 0]) 0 := ⟨none, 0, 0, none, 0, 0, rfl, num_nil _ _ _, num_nil _ _ _⟩

theorem q_mag {w : World} {t : Bool} {a a' : Option Addr} {k c k' c' : Nat} {q : Rat} (h : QIs w (.agg #[.bool t, .slice a k c, .slice a' k' c']) q) : Num w (.slice a k c) q.num.natAbs := by
  obtain ⟨_, _, _, _, _, _, e, h1, h2⟩ := h
  simp only [Value.agg.injEq, Array.mk.injEq, List.cons.injEq, Value.slice.injEq, and_true, Value.bool.injEq] at e
  obtain ⟨-, ⟨rfl, rfl, rfl⟩, rfl, rfl, rfl⟩ := e
  exact h1
theorem q_low {w : World} {t : Bool} {a a' : Option Addr} {k c k' c' : Nat} {q : Rat} (h : QIs w (.agg #[.bool t, .slice a k c, .slice a' k' c']) q) : Num w (.slice a' k' c') (lowOf q.den) := by
  obtain ⟨_, _, _, _, _, _, e, h1, h2⟩ := h
  simp only [Value.agg.injEq, Array.mk.injEq, List.cons.injEq, Value.slice.injEq, and_true, Value.bool.injEq] at e
  obtain ⟨-, ⟨rfl, rfl, rfl⟩, rfl, rfl, rfl⟩ := e
  exact h2

theorem wminus_c (w : World) (v u : Value) (s t : Bool) (n m K : Nat) (hK : K ≤ 400000) (h : WholeS w v s n) (hu : WholeS w u t m) (hn : n < 2 ^ (64 * K)) (hm : m < 2 ^ (64 * K)) :
    Calls Tryz.prog 103 #[v, u] w (RetWhole w (sgn s n - sgn t m)) := by
  obtain ⟨a, k, c, rfl, hv⟩ := h
  obtain ⟨a', k', c', rfl, hu⟩ := hu
  have HP : Hid (∀ w1, G w w1 → Calls Tryz.prog 120 #[.agg #[.bool s, .slice a k c], .agg #[.bool (!t), .slice a' k' c']] w1 (RetWhole w1 (sgn s n - sgn t m))) := fun w1 g => by
    have h := wplus_c w1 (.agg #[.bool s, .slice a k c]) (.agg #[.bool (!t), .slice a' k' c']) s (!t) n m K hK ⟨a, k, c, rfl, hv.G g⟩ ⟨a', k', c', rfl, hu.G g⟩ hn hm
    rw [show sgn s n + sgn (!t) m = sgn s n - sgn t m from by unfold sgn; cases s <;> cases t <;> simp <;> omega] at h
    exact h
  generalize sgn s n - sgn t m = y at *
  clear hv hu hn hm
  go_enter Tryz.func103, Tryz.ntmps103
  go_wp2_with fail
  have g0 : G w (World.alloc (World.alloc (w.alloc (.cells #[.bool s, .slice a k c] 94)) (.cells #[.bool t, .slice a' k' c'] 94)) (.cells #[.bool false, .slice none 0 0] 94)) := ((((G.refl w).alloc _).alloc _).alloc _)
  have R0 : Hid (Rec (World.alloc (World.alloc (w.alloc (.cells #[.bool s, .slice a k c] 94)) (.cells #[.bool t, .slice a' k' c'] 94)) (.cells #[.bool false, .slice none 0 0] 94)) (w.heap.size) [.bool s, .slice a k c]) := by
    have h := Rec.new2 w (.bool s) (.slice a k c) 94
    exact (Rec.G (Rec.G h ((G.refl (w.alloc (.cells #[.bool s, .slice a k c] 94))).alloc (.cells #[.bool t, .slice a' k' c'] 94))) ((G.refl (World.alloc (w.alloc (.cells #[.bool s, .slice a k c] 94)) (.cells #[.bool t, .slice a' k' c'] 94))).alloc (.cells #[.bool false, .slice none 0 0] 94)))
  have R1 : Hid (Rec (World.alloc (World.alloc (w.alloc (.cells #[.bool s, .slice a k c] 94)) (.cells #[.bool t, .slice a' k' c'] 94)) (.cells #[.bool false, .slice none 0 0] 94)) (w.heap.size + 1) [.bool t, .slice a' k' c']) := by
    have h := Rec.new2 (w.alloc (.cells #[.bool s, .slice a k c] 94)) (.bool t) (.slice a' k' c') 94
    rw [show (w.alloc (.cells #[.bool s, .slice a k c] 94)).heap.size = w.heap.size + 1 from by simp] at h
    exact (Rec.G h ((G.refl (World.alloc (w.alloc (.cells #[.bool s, .slice a k c] 94)) (.cells #[.bool t, .slice a' k' c'] 94))).alloc (.cells #[.bool false, .slice none 0 0] 94)))
  have R2 : Hid (Rec (World.alloc (World.alloc (w.alloc (.cells #[.bool s, .slice a k c] 94)) (.cells #[.bool t, .slice a' k' c'] 94)) (.cells #[.bool false, .slice none 0 0] 94)) (w.heap.size + 2) [.bool false, .slice none 0 0]) := by
    have h := Rec.new2 (World.alloc (w.alloc (.cells #[.bool s, .slice a k c] 94)) (.cells #[.bool t, .slice a' k' c'] 94)) (.bool false) (.slice none 0 0) 94
    rw [show (World.alloc (w.alloc (.cells #[.bool s, .slice a k c] 94)) (.cells #[.bool t, .slice a' k' c'] 94)).heap.size = w.heap.size + 2 from by simp] at h
    exact h
  have hz0 : (World.alloc (World.alloc (w.alloc (.cells #[.bool s, .slice a k c] 94)) (.cells #[.bool t, .slice a' k' c'] 94)) (.cells #[.bool false, .slice none 0 0] 94)).heap.size = w.heap.size + 3 := by simp
  generalize (World.alloc (World.alloc (w.alloc (.cells #[.bool s, .slice a k c] 94)) (.cells #[.bool t, .slice a' k' c'] 94)) (.cells #[.bool false, .slice none 0 0] 94)) = w0 at *
  refine Calls.mono (P := Tryz.prog) (HP.out w0 g0) ?_
  intro e w1 hs
  obtain ⟨v, rfl, g1, h4⟩ := hs
  clear HP
  obtain ⟨a9, k9, c9, rfl, hm9⟩ := h4
  have HN9 : Hid (Num w1 (.slice a9 k9 c9) (y).natAbs) := hm9
  obtain ⟨t9, ht9⟩ : ∃ t, t = decide ((y) < 0) := ⟨_, rfl⟩
  rw [← ht9]
  have HT9 : Hid (t9 = decide ((y) < 0)) := ht9
  clear hm9 ht9
  have hS := Rec.f2 (Rec.G R2.out ((g1)))
  have hS_0 := hS.1
  have hS_1 := hS.2.1
  have hS_2 := hS.2.2.1
  have hS_3 := hS.2.2.2
  clear hS
  have HN9' : Num _ _ _ := num_set2 (u1 := .bool t9) (u2 := .slice a9 k9 c9) HN9.out (Rec.G R2.out (g1)) trivial trivial
  go_wp2_with fail
  have hT : Hid (Rec (World.setCell (World.setCell w1 ⟨w.heap.size + 2, 0, none⟩ (.bool t9)) ⟨w.heap.size + 2, 1, none⟩ (.slice a9 k9 c9)) (w.heap.size + 2) [.bool t9, .slice a9 k9 c9]) := Rec.set2 (Rec.G R2.out (g1))
  have g9 := Rec.g2 (b := w.heap.size + 2) (u := .bool t9) (v := .slice a9 k9 c9) (G.trans g0 g1) (by omega)
  generalize (World.setCell (World.setCell w1 ⟨w.heap.size + 2, 0, none⟩ (.bool t9)) ⟨w.heap.size + 2, 1, none⟩ (.slice a9 k9 c9)) = w9 at *
  have hF := Rec.f2 (Rec.G hT.out ((G.refl _)))
  have hF_0 := hF.1
  have hF_1 := hF.2.1
  have hF_2 := hF.2.2.1
  have hF_3 := hF.2.2.2
  clear hF
  refine bodyPost_ret (v := .agg #[.bool t9, .slice a9 k9 c9]) (by simp [results, Tryz.results103, go_sem, *]) rfl ?_
  exact ⟨_, rfl, g9, a9, k9, c9, by rw [← HT9.out], HN9'⟩

theorem wholeOf_c (w : World) (z : Int) (h1 : -9223372036854775808 ≤ z) (h2 : z < 9223372036854775808) :
    Calls Tryz.prog 189 #[.int .i64 z] w (RetWhole w z) := by
  by_cases h0 : z < 0
  · obtain ⟨n, rfl⟩ : ∃ n : Nat, z = -(n : Int) := ⟨z.natAbs, by omega⟩
    have hn : n < 18446744073709551616 := by omega
    have HW : Hid (∀ w1, _) := fun w1 => word_c w1 n hn
    have HS : Hid (∀ w1 v, Num w1 v n → Calls Tryz.prog 101 #[.bool true, v] w1 (RetWhole w1 (-(n : Int)))) := fun w1 v hv => signed_c w1 v true n hv
    have hd : decide (-(n : Int) < 0) = true := by simp; omega
    have hn1 : (1 : Int) ≤ n := by omega
    have hn2 : (n : Int) ≤ 9223372036854775808 := by omega
    have hu : IntKind.u64.wrap (-(n : Int)) = 18446744073709551616 - n := by rw [IntKind.wrap_u64]; omega
    have hu2 : IntKind.u64.wrap (-(18446744073709551616 - (n : Int))) = n := by rw [IntKind.wrap_u64]; omega
    generalize (-(n : Int)) = z at *
    clear h0 h1 h2 hn
    go_enter Tryz.func189, Tryz.ntmps189
    go_wp2_with fail
    have g0 : G w (w.alloc (.cells #[.bool false, .slice none 0 0] 94)) := ((G.refl w).alloc _)
    have R0 : Hid (Rec (w.alloc (.cells #[.bool false, .slice none 0 0] 94)) (w.heap.size) [.bool false, .slice none 0 0]) := by
      have h := Rec.new2 w (.bool false) (.slice none 0 0) 94
      exact h
    have hz0 : (w.alloc (.cells #[.bool false, .slice none 0 0] 94)).heap.size = w.heap.size + 1 := by simp
    generalize (w.alloc (.cells #[.bool false, .slice none 0 0] 94)) = w0 at *
    refine Calls.mono (P := Tryz.prog) (HW.out w0) ?_
    intro e w1 hs
    obtain ⟨v, rfl, g1, h4⟩ := hs
    go_wp2_with fail
    refine Calls.mono (P := Tryz.prog) (HS.out w1 v h4) ?_
    intro e w2 hs
    obtain ⟨u, rfl, g2, h5⟩ := hs
    clear HW HS h4 hd hu hu2
    obtain ⟨a9, k9, c9, rfl, hm9⟩ := h5
    have HN9 : Hid (Num w2 (.slice a9 k9 c9) (z).natAbs) := hm9
    obtain ⟨t9, ht9⟩ : ∃ t, t = decide ((z) < 0) := ⟨_, rfl⟩
    rw [← ht9]
    have HT9 : Hid (t9 = decide ((z) < 0)) := ht9
    clear hm9 ht9
    have hS := Rec.f2 (Rec.G R0.out ((G.trans g1 g2)))
    have hS_0 := hS.1
    have hS_1 := hS.2.1
    have hS_2 := hS.2.2.1
    have hS_3 := hS.2.2.2
    clear hS
    have HN9' : Num _ _ _ := num_set2 (u1 := .bool t9) (u2 := .slice a9 k9 c9) HN9.out (Rec.G R0.out (G.trans g1 g2)) trivial trivial
    go_wp2_with fail
    have hT : Hid (Rec (World.setCell (World.setCell w2 ⟨w.heap.size, 0, none⟩ (.bool t9)) ⟨w.heap.size, 1, none⟩ (.slice a9 k9 c9)) (w.heap.size) [.bool t9, .slice a9 k9 c9]) := Rec.set2 (Rec.G R0.out (G.trans g1 g2))
    have g9 := Rec.g2 (b := w.heap.size) (u := .bool t9) (v := .slice a9 k9 c9) (G.trans g0 (G.trans g1 g2)) (by omega)
    generalize (World.setCell (World.setCell w2 ⟨w.heap.size, 0, none⟩ (.bool t9)) ⟨w.heap.size, 1, none⟩ (.slice a9 k9 c9)) = w9 at *
    have hF := Rec.f2 (Rec.G hT.out ((G.refl _)))
    have hF_0 := hF.1
    have hF_1 := hF.2.1
    have hF_2 := hF.2.2.1
    have hF_3 := hF.2.2.2
    clear hF
    refine bodyPost_ret (v := .agg #[.bool t9, .slice a9 k9 c9]) (by simp [results, Tryz.results189, go_sem, *]) rfl ?_
    exact ⟨_, rfl, g9, a9, k9, c9, by rw [← HT9.out], HN9'⟩
  · obtain ⟨n, rfl⟩ : ∃ n : Nat, z = (n : Int) := ⟨z.natAbs, by omega⟩
    have hn : n < 18446744073709551616 := by omega
    have HW : Hid (∀ w1, _) := fun w1 => word_c w1 n hn
    have HS : Hid (∀ w1 v, Num w1 v n → Calls Tryz.prog 101 #[.bool false, v] w1 (RetWhole w1 (n : Int))) := fun w1 v hv => signed_c w1 v false n hv
    have hn1 : (0 : Int) ≤ n := by omega
    have hn2 : (n : Int) ≤ 9223372036854775807 := by omega
    have hd : decide ((n : Int) < 0) = false := by simp
    clear h0 h1 h2 hn
    go_enter Tryz.func189, Tryz.ntmps189
    go_wp2_with fail
    have g0 : G w (w.alloc (.cells #[.bool false, .slice none 0 0] 94)) := ((G.refl w).alloc _)
    have R0 : Hid (Rec (w.alloc (.cells #[.bool false, .slice none 0 0] 94)) (w.heap.size) [.bool false, .slice none 0 0]) := by
      have h := Rec.new2 w (.bool false) (.slice none 0 0) 94
      exact h
    have hz0 : (w.alloc (.cells #[.bool false, .slice none 0 0] 94)).heap.size = w.heap.size + 1 := by simp
    generalize (w.alloc (.cells #[.bool false, .slice none 0 0] 94)) = w0 at *
    refine Calls.mono (P := Tryz.prog) (HW.out w0) ?_
    intro e w1 hs
    obtain ⟨v, rfl, g1, h4⟩ := hs
    go_wp2_with fail
    refine Calls.mono (P := Tryz.prog) (HS.out w1 v h4) ?_
    intro e w2 hs
    obtain ⟨u, rfl, g2, h5⟩ := hs
    clear HW HS h4 hd
    obtain ⟨a9, k9, c9, rfl, hm9⟩ := h5
    have HN9 : Hid (Num w2 (.slice a9 k9 c9) ((n : Int)).natAbs) := hm9
    obtain ⟨t9, ht9⟩ : ∃ t, t = decide (((n : Int)) < 0) := ⟨_, rfl⟩
    rw [← ht9]
    have HT9 : Hid (t9 = decide (((n : Int)) < 0)) := ht9
    clear hm9 ht9
    have hS := Rec.f2 (Rec.G R0.out ((G.trans g1 g2)))
    have hS_0 := hS.1
    have hS_1 := hS.2.1
    have hS_2 := hS.2.2.1
    have hS_3 := hS.2.2.2
    clear hS
    have HN9' : Num _ _ _ := num_set2 (u1 := .bool t9) (u2 := .slice a9 k9 c9) HN9.out (Rec.G R0.out (G.trans g1 g2)) trivial trivial
    go_wp2_with fail
    have hT : Hid (Rec (World.setCell (World.setCell w2 ⟨w.heap.size, 0, none⟩ (.bool t9)) ⟨w.heap.size, 1, none⟩ (.slice a9 k9 c9)) (w.heap.size) [.bool t9, .slice a9 k9 c9]) := Rec.set2 (Rec.G R0.out (G.trans g1 g2))
    have g9 := Rec.g2 (b := w.heap.size) (u := .bool t9) (v := .slice a9 k9 c9) (G.trans g0 (G.trans g1 g2)) (by omega)
    generalize (World.setCell (World.setCell w2 ⟨w.heap.size, 0, none⟩ (.bool t9)) ⟨w.heap.size, 1, none⟩ (.slice a9 k9 c9)) = w9 at *
    have hF := Rec.f2 (Rec.G hT.out ((G.refl _)))
    have hF_0 := hF.1
    have hF_1 := hF.2.1
    have hF_2 := hF.2.2.1
    have hF_3 := hF.2.2.2
    clear hF
    refine bodyPost_ret (v := .agg #[.bool t9, .slice a9 k9 c9]) (by simp [results, Tryz.results189, go_sem, *]) rfl ?_
    exact ⟨_, rfl, g9, a9, k9, c9, by rw [← HT9.out], HN9'⟩

theorem fraction_c (w : World) (t l : Value) (z : Int) (d K : Nat) (q : Rat) (ht : WholeIs w t z) (hl : Num w l d) (hd0 : 0 < d) (hd : d < 2 ^ (64 * K)) (hc : z ≠ 0 → Nat.gcd z.natAbs d = 1) (hq0 : q = mkRat z d) :
    Calls Tryz.prog 100 #[t, l] w (RetQ w q) := by
  have hq := mk_cross hd0 hq0
  clear hq0
  have HS : Hid (∀ w1, G w w1 → _) := fun w1 g => wsign_c w1 t z (ht.G g)
  obtain ⟨a, k, c, rfl, hm⟩ := ht
  by_cases h0 : z = 0
  · subst h0
    have hq0 : q = 0 := by
      have h1 : q.num * (d : Int) = 0 := by rw [← hq]; simp
      have h2 : q.num = 0 := by rcases Int.mul_eq_zero.1 h1 with h | h; exact h; omega
      exact Rat.num_eq_zero.1 h2
    rw [hq0]
    rw [show decide ((0 : Int) < 0) = false from rfl] at *
    clear hl hd0 hd hc hm hq hq0
    go_enter Tryz.func100, Tryz.ntmps100
    go_wp2_with fail
    have g0 : G w (World.alloc (w.alloc (.cells #[.bool false, .slice a k c] 94)) (.cells #[.bool false, .slice none 0 0, .slice none 0 0] 96)) := (((G.refl w).alloc _).alloc _)
    have R0 : Hid (Rec (World.alloc (w.alloc (.cells #[.bool false, .slice a k c] 94)) (.cells #[.bool false, .slice none 0 0, .slice none 0 0] 96)) (w.heap.size) [.bool false, .slice a k c]) := by
      have h := Rec.new2 w (.bool false) (.slice a k c) 94
      exact (Rec.G h ((G.refl (w.alloc (.cells #[.bool false, .slice a k c] 94))).alloc (.cells #[.bool false, .slice none 0 0, .slice none 0 0] 96)))
    have R1 : Hid (Rec (World.alloc (w.alloc (.cells #[.bool false, .slice a k c] 94)) (.cells #[.bool false, .slice none 0 0, .slice none 0 0] 96)) (w.heap.size + 1) [.bool false, .slice none 0 0, .slice none 0 0]) := by
      have h := Rec.new3 (w.alloc (.cells #[.bool false, .slice a k c] 94)) (.bool false) (.slice none 0 0) (.slice none 0 0) 96
      rw [show (w.alloc (.cells #[.bool false, .slice a k c] 94)).heap.size = w.heap.size + 1 from by simp] at h
      exact h
    have hz0 : (World.alloc (w.alloc (.cells #[.bool false, .slice a k c] 94)) (.cells #[.bool false, .slice none 0 0, .slice none 0 0] 96)).heap.size = w.heap.size + 2 := by simp
    generalize (World.alloc (w.alloc (.cells #[.bool false, .slice a k c] 94)) (.cells #[.bool false, .slice none 0 0, .slice none 0 0] 96)) = w0 at *
    refine Calls.mono (P := Tryz.prog) (HS.out w0 g0) ?_
    rintro e w1 ⟨rfl, g1⟩
    clear HS
    have hS := Rec.f3 (Rec.G R1.out ((g1)))
    have hS_0 := hS.1
    have hS_1 := hS.2.1
    have hS_2 := hS.2.2.1
    have hS_3 := hS.2.2.2.1
    have hS_4 := hS.2.2.2.2.1
    have hS_5 := hS.2.2.2.2.2
    clear hS
    go_wp2_with fail
    have hT : Hid (Rec (World.setCell (World.setCell (World.setCell w1 ⟨w.heap.size + 1, 0, none⟩ (.bool false)) ⟨w.heap.size + 1, 1, none⟩ (.slice none 0 0)) ⟨w.heap.size + 1, 2, none⟩ (.slice none 0 0)) (w.heap.size + 1) [.bool false, .slice none 0 0, .slice none 0 0]) := Rec.set3 (Rec.G R1.out (g1))
    have g9 := Rec.g3 (b := w.heap.size + 1) (u := .bool false) (v := .slice none 0 0) (x := .slice none 0 0) (G.trans g0 g1) (by omega)
    generalize (World.setCell (World.setCell (World.setCell w1 ⟨w.heap.size + 1, 0, none⟩ (.bool false)) ⟨w.heap.size + 1, 1, none⟩ (.slice none 0 0)) ⟨w.heap.size + 1, 2, none⟩ (.slice none 0 0)) = w9 at *
    have hF := Rec.f3 (Rec.G hT.out ((G.refl _)))
    have hF_0 := hF.1
    have hF_1 := hF.2.1
    have hF_2 := hF.2.2.1
    have hF_3 := hF.2.2.2.1
    have hF_4 := hF.2.2.2.2.1
    have hF_5 := hF.2.2.2.2.2
    clear hF
    refine bodyPost_ret (v := .agg #[.bool false, .slice none 0 0, .slice none 0 0]) (by simp [results, Tryz.results100, go_sem, *]) rfl ?_
    exact ⟨_, rfl, g9, q_zero w9⟩
  · obtain ⟨rfl, rfl⟩ := rat_low hd0 (hc h0) hq
    have HO : Hid (∀ w1, G w w1 → _) := fun w1 g => one_c w1 l q.den K (hl.G g) hd
    have hsg : (q.num.sign == 0) = false := by
      rcases Int.lt_trichotomy q.num 0 with h | h | h
      · rw [Int.sign_eq_neg_one_of_neg h]; rfl
      · exact absurd h h0
      · rw [Int.sign_eq_one_of_pos h]; rfl
    obtain ⟨a', k', c', rfl, -⟩ := num_zero hl
    have HL : Hid (Num w (.slice a' k' c') q.den) := hl
    obtain ⟨t, htt⟩ : ∃ t, t = decide (q.num < 0) := ⟨_, rfl⟩
    rw [← htt] at HS ⊢
    have HT : Hid (t = decide (q.num < 0)) := htt
    have HM : Hid (Num w (.slice a k c) q.num.natAbs) := hm
    generalize q.num.sign = sg at *
    clear hd0 hd hc hl htt hm hq
    by_cases h1 : q.den = 1
    · rw [decide_eq_true h1] at HO
      go_enter Tryz.func100, Tryz.ntmps100
      go_wp2_with fail
      have g0 : G w (World.alloc (w.alloc (.cells #[.bool t, .slice a k c] 94)) (.cells #[.bool false, .slice none 0 0, .slice none 0 0] 96)) := (((G.refl w).alloc _).alloc _)
      have R0 : Hid (Rec (World.alloc (w.alloc (.cells #[.bool t, .slice a k c] 94)) (.cells #[.bool false, .slice none 0 0, .slice none 0 0] 96)) (w.heap.size) [.bool t, .slice a k c]) := by
        have h := Rec.new2 w (.bool t) (.slice a k c) 94
        exact (Rec.G h ((G.refl (w.alloc (.cells #[.bool t, .slice a k c] 94))).alloc (.cells #[.bool false, .slice none 0 0, .slice none 0 0] 96)))
      have R1 : Hid (Rec (World.alloc (w.alloc (.cells #[.bool t, .slice a k c] 94)) (.cells #[.bool false, .slice none 0 0, .slice none 0 0] 96)) (w.heap.size + 1) [.bool false, .slice none 0 0, .slice none 0 0]) := by
        have h := Rec.new3 (w.alloc (.cells #[.bool t, .slice a k c] 94)) (.bool false) (.slice none 0 0) (.slice none 0 0) 96
        rw [show (w.alloc (.cells #[.bool t, .slice a k c] 94)).heap.size = w.heap.size + 1 from by simp] at h
        exact h
      have hz0 : (World.alloc (w.alloc (.cells #[.bool t, .slice a k c] 94)) (.cells #[.bool false, .slice none 0 0, .slice none 0 0] 96)).heap.size = w.heap.size + 2 := by simp
      generalize (World.alloc (w.alloc (.cells #[.bool t, .slice a k c] 94)) (.cells #[.bool false, .slice none 0 0, .slice none 0 0] 96)) = w0 at *
      refine Calls.mono (P := Tryz.prog) (HS.out w0 g0) ?_
      rintro e w1 ⟨rfl, g1⟩
      go_wp2_with fail
      refine Calls.mono (P := Tryz.prog) (HO.out w1 (G.trans g0 g1)) ?_
      rintro e w2 ⟨rfl, g2⟩
      have hr0 := Rec.f2 (Rec.G R0.out (G.trans g1 g2))
      have hq0 := hr0.1
      have hq1 := hr0.2.1
      have h5 : QIs w2 (.agg #[.bool (decide (q.num < 0)), .slice a k c, .slice none 0 0]) q := ⟨a, k, c, none, 0, 0, rfl, HM.out.G (G.trans g0 (G.trans g1 g2)), by unfold lowOf; rw [if_pos h1]; exact num_nil _ _ _⟩
      clear hr0 HS HO h0 h1 hsg
      have HM8 : Hid (Num w2 (.slice a k c) (q).num.natAbs) := q_mag h5
      have HM9 : Hid (Num w2 (.slice none 0 0) (lowOf (q).den)) := q_low h5
      clear h5
      have hS := Rec.f3 (Rec.G R1.out ((G.trans g1 g2)))
      have hS_0 := hS.1
      have hS_1 := hS.2.1
      have hS_2 := hS.2.2.1
      have hS_3 := hS.2.2.2.1
      have hS_4 := hS.2.2.2.2.1
      have hS_5 := hS.2.2.2.2.2
      clear hS
      have HN8' : Num _ _ _ := num_set3 (u1 := .bool t) (u2 := .slice a k c) (u3 := .slice none 0 0) HM8.out (Rec.G R1.out (G.trans g1 g2)) trivial trivial trivial
      have HN9' : Num _ _ _ := num_set3 (u1 := .bool t) (u2 := .slice a k c) (u3 := .slice none 0 0) HM9.out (Rec.G R1.out (G.trans g1 g2)) trivial trivial trivial
      go_wp2_with fail
      have hT : Hid (Rec (World.setCell (World.setCell (World.setCell w2 ⟨w.heap.size + 1, 0, none⟩ (.bool t)) ⟨w.heap.size + 1, 1, none⟩ (.slice a k c)) ⟨w.heap.size + 1, 2, none⟩ (.slice none 0 0)) (w.heap.size + 1) [.bool t, .slice a k c, .slice none 0 0]) := Rec.set3 (Rec.G R1.out (G.trans g1 g2))
      have g9 := Rec.g3 (b := w.heap.size + 1) (u := .bool t) (v := .slice a k c) (x := .slice none 0 0) (G.trans g0 (G.trans g1 g2)) (by omega)
      generalize (World.setCell (World.setCell (World.setCell w2 ⟨w.heap.size + 1, 0, none⟩ (.bool t)) ⟨w.heap.size + 1, 1, none⟩ (.slice a k c)) ⟨w.heap.size + 1, 2, none⟩ (.slice none 0 0)) = w9 at *
      have hF := Rec.f3 (Rec.G hT.out ((G.refl _)))
      have hF_0 := hF.1
      have hF_1 := hF.2.1
      have hF_2 := hF.2.2.1
      have hF_3 := hF.2.2.2.1
      have hF_4 := hF.2.2.2.2.1
      have hF_5 := hF.2.2.2.2.2
      clear hF
      refine bodyPost_ret (v := .agg #[.bool t, .slice a k c, .slice none 0 0]) (by simp [results, Tryz.results100, go_sem, *]) rfl ?_
      exact ⟨_, rfl, g9, a, k, c, none, 0, 0, by rw [← HT.out], HN8', HN9'⟩
    · rw [decide_eq_false h1] at HO
      go_enter Tryz.func100, Tryz.ntmps100
      go_wp2_with fail
      have g0 : G w (World.alloc (w.alloc (.cells #[.bool t, .slice a k c] 94)) (.cells #[.bool false, .slice none 0 0, .slice none 0 0] 96)) := (((G.refl w).alloc _).alloc _)
      have R0 : Hid (Rec (World.alloc (w.alloc (.cells #[.bool t, .slice a k c] 94)) (.cells #[.bool false, .slice none 0 0, .slice none 0 0] 96)) (w.heap.size) [.bool t, .slice a k c]) := by
        have h := Rec.new2 w (.bool t) (.slice a k c) 94
        exact (Rec.G h ((G.refl (w.alloc (.cells #[.bool t, .slice a k c] 94))).alloc (.cells #[.bool false, .slice none 0 0, .slice none 0 0] 96)))
      have R1 : Hid (Rec (World.alloc (w.alloc (.cells #[.bool t, .slice a k c] 94)) (.cells #[.bool false, .slice none 0 0, .slice none 0 0] 96)) (w.heap.size + 1) [.bool false, .slice none 0 0, .slice none 0 0]) := by
        have h := Rec.new3 (w.alloc (.cells #[.bool t, .slice a k c] 94)) (.bool false) (.slice none 0 0) (.slice none 0 0) 96
        rw [show (w.alloc (.cells #[.bool t, .slice a k c] 94)).heap.size = w.heap.size + 1 from by simp] at h
        exact h
      have hz0 : (World.alloc (w.alloc (.cells #[.bool t, .slice a k c] 94)) (.cells #[.bool false, .slice none 0 0, .slice none 0 0] 96)).heap.size = w.heap.size + 2 := by simp
      generalize (World.alloc (w.alloc (.cells #[.bool t, .slice a k c] 94)) (.cells #[.bool false, .slice none 0 0, .slice none 0 0] 96)) = w0 at *
      refine Calls.mono (P := Tryz.prog) (HS.out w0 g0) ?_
      rintro e w1 ⟨rfl, g1⟩
      go_wp2_with fail
      refine Calls.mono (P := Tryz.prog) (HO.out w1 (G.trans g0 g1)) ?_
      rintro e w2 ⟨rfl, g2⟩
      have hr0 := Rec.f2 (Rec.G R0.out (G.trans g1 g2))
      have hq0 := hr0.1
      have hq1 := hr0.2.1
      have h5 : QIs w2 (.agg #[.bool (decide (q.num < 0)), .slice a k c, .slice a' k' c']) q := ⟨a, k, c, a', k', c', rfl, HM.out.G (G.trans g0 (G.trans g1 g2)), by unfold lowOf; rw [if_neg h1]; exact HL.out.G (G.trans g0 (G.trans g1 g2))⟩
      clear hr0 HS HO h0 h1 hsg
      have HM8 : Hid (Num w2 (.slice a k c) (q).num.natAbs) := q_mag h5
      have HM9 : Hid (Num w2 (.slice a' k' c') (lowOf (q).den)) := q_low h5
      clear h5
      have hS := Rec.f3 (Rec.G R1.out ((G.trans g1 g2)))
      have hS_0 := hS.1
      have hS_1 := hS.2.1
      have hS_2 := hS.2.2.1
      have hS_3 := hS.2.2.2.1
      have hS_4 := hS.2.2.2.2.1
      have hS_5 := hS.2.2.2.2.2
      clear hS
      have HN8' : Num _ _ _ := num_set3 (u1 := .bool t) (u2 := .slice a k c) (u3 := .slice a' k' c') HM8.out (Rec.G R1.out (G.trans g1 g2)) trivial trivial trivial
      have HN9' : Num _ _ _ := num_set3 (u1 := .bool t) (u2 := .slice a k c) (u3 := .slice a' k' c') HM9.out (Rec.G R1.out (G.trans g1 g2)) trivial trivial trivial
      go_wp2_with fail
      have hT : Hid (Rec (World.setCell (World.setCell (World.setCell w2 ⟨w.heap.size + 1, 0, none⟩ (.bool t)) ⟨w.heap.size + 1, 1, none⟩ (.slice a k c)) ⟨w.heap.size + 1, 2, none⟩ (.slice a' k' c')) (w.heap.size + 1) [.bool t, .slice a k c, .slice a' k' c']) := Rec.set3 (Rec.G R1.out (G.trans g1 g2))
      have g9 := Rec.g3 (b := w.heap.size + 1) (u := .bool t) (v := .slice a k c) (x := .slice a' k' c') (G.trans g0 (G.trans g1 g2)) (by omega)
      generalize (World.setCell (World.setCell (World.setCell w2 ⟨w.heap.size + 1, 0, none⟩ (.bool t)) ⟨w.heap.size + 1, 1, none⟩ (.slice a k c)) ⟨w.heap.size + 1, 2, none⟩ (.slice a' k' c')) = w9 at *
      have hF := Rec.f3 (Rec.G hT.out ((G.refl _)))
      have hF_0 := hF.1
      have hF_1 := hF.2.1
      have hF_2 := hF.2.2.1
      have hF_3 := hF.2.2.2.1
      have hF_4 := hF.2.2.2.2.1
      have hF_5 := hF.2.2.2.2.2
      clear hF
      refine bodyPost_ret (v := .agg #[.bool t, .slice a k c, .slice a' k' c']) (by simp [results, Tryz.results100, go_sem, *]) rfl ?_
      exact ⟨_, rfl, g9, a, k, c, a', k', c', by rw [← HT.out], HN8', HN9'⟩
end Go.Proofs.YtielcpkcfpbanacGreatDoor.EN
namespace Go.Proofs.YtielcpkcfpbanacGreatDoor.EN
open Go.ChangeShapes Go.WideShapes Go.ChangeAt Go.RowKit

/-- How great a fraction's parts are. -/
def QB (q : Rat) (K : Nat) : Prop := q.num.natAbs < 2 ^ (64 * K) ∧ q.den < 2 ^ (64 * K)
theorem QB.mono {q : Rat} {K L : Nat} (h : QB q K) (hl : K ≤ L) : QB q L :=
  ⟨Nat.lt_of_lt_of_le h.1 (Nat.pow_le_pow_right (by omega) (by omega)), Nat.lt_of_lt_of_le h.2 (Nat.pow_le_pow_right (by omega) (by omega))⟩
theorem lt_mul_pow {a b K L : Nat} (ha : a < 2 ^ (64 * K)) (hb : b < 2 ^ (64 * L)) : a * b < 2 ^ (64 * (K + L)) := by
  rw [show 64 * (K + L) = 64 * K + 64 * L from by omega, Nat.pow_add]
  exact Nat.mul_lt_mul'' ha hb
theorem cop_div {a b : Nat} (h : 0 < b) : Nat.gcd (a / Nat.gcd a b) (b / Nat.gcd a b) = 1 := Nat.gcd_div_gcd_div_gcd_of_pos_right h
theorem cop_dvd {a b c d : Nat} (h : Nat.gcd a b = 1) (hc : c ∣ a) (hd : d ∣ b) : Nat.gcd c d = 1 :=
  Nat.eq_one_of_dvd_one (h ▸ Nat.dvd_gcd (Nat.dvd_trans (Nat.gcd_dvd_left c d) hc) (Nat.dvd_trans (Nat.gcd_dvd_right c d) hd))
theorem cop_mul4 {a c e b : Nat} (h1 : Nat.gcd a e = 1) (h2 : Nat.gcd a b = 1) (h3 : Nat.gcd c e = 1) (h4 : Nat.gcd c b = 1) : Nat.gcd (a * c) (e * b) = 1 :=
  Nat.Coprime.mul_left (Nat.Coprime.mul_right h1 h2) (Nat.Coprime.mul_right h3 h4)

/-- What a product comes to, in lowest terms. -/
theorem mul_low (x y : Rat) : Nat.gcd (x.num.natAbs / Nat.gcd x.num.natAbs y.den * (y.num.natAbs / Nat.gcd y.num.natAbs x.den)) (x.den / Nat.gcd y.num.natAbs x.den * (y.den / Nat.gcd x.num.natAbs y.den)) = 1 := by
  have hx := x.reduced
  have hy := y.reduced
  have hxd := x.den_pos
  have hyd := y.den_pos
  refine cop_mul4 ?_ (cop_div hyd) (cop_div hxd) ?_
  · exact cop_dvd hx (Nat.div_dvd_of_dvd (Nat.gcd_dvd_left _ _)) (Nat.div_dvd_of_dvd (Nat.gcd_dvd_right _ _))
  · exact cop_dvd hy (Nat.div_dvd_of_dvd (Nat.gcd_dvd_left _ _)) (Nat.div_dvd_of_dvd (Nat.gcd_dvd_right _ _))
theorem sgn_mul (s t : Bool) (n m : Nat) : sgn (s != t) (n * m) = sgn s n * sgn t m := by
  unfold sgn
  cases s <;> cases t <;> simp [Int.neg_mul, Int.mul_neg]
theorem mul_val (x y : Rat) : x * y = mkRat (sgn (decide (x.num < 0) != decide (y.num < 0)) (x.num.natAbs / Nat.gcd x.num.natAbs y.den * (y.num.natAbs / Nat.gcd y.num.natAbs x.den))) (x.den / Nat.gcd y.num.natAbs x.den * (y.den / Nat.gcd x.num.natAbs y.den)) := by
  have hxd := x.den_pos
  have hyd := y.den_pos
  rw [Rat.mul_def']
  obtain ⟨a, ha⟩ := Nat.gcd_dvd_left x.num.natAbs y.den
  obtain ⟨b, hb⟩ := Nat.gcd_dvd_right x.num.natAbs y.den
  obtain ⟨c, hc⟩ := Nat.gcd_dvd_left y.num.natAbs x.den
  obtain ⟨e, he⟩ := Nat.gcd_dvd_right y.num.natAbs x.den
  have hg : 0 < Nat.gcd x.num.natAbs y.den := Nat.gcd_pos_of_pos_right _ hyd
  have hh : 0 < Nat.gcd y.num.natAbs x.den := Nat.gcd_pos_of_pos_right _ hxd
  generalize Nat.gcd x.num.natAbs y.den = g at *
  generalize Nat.gcd y.num.natAbs x.den = h at *
  have e1 : x.num.natAbs / g = a := by rw [ha]; exact Nat.mul_div_cancel_left _ hg
  have e2 : y.den / g = b := by rw [hb]; exact Nat.mul_div_cancel_left _ hg
  have e3 : y.num.natAbs / h = c := by rw [hc]; exact Nat.mul_div_cancel_left _ hh
  have e4 : x.den / h = e := by rw [he]; exact Nat.mul_div_cancel_left _ hh
  rw [e1, e2, e3, e4]
  have hb0 : b ≠ 0 := by rintro rfl; omega
  have he0 : e ≠ 0 := by rintro rfl; omega
  rw [Rat.mkRat_eq_iff (Nat.mul_ne_zero (by omega) (by omega)) (Nat.mul_ne_zero he0 hb0)]
  have hx : x.num = sgn (decide (x.num < 0)) (g * a) := by rw [← ha]; exact (sgn_abs _).symm
  have hy : y.num = sgn (decide (y.num < 0)) (h * c) := by rw [← hc]; exact (sgn_abs _).symm
  generalize decide (x.num < 0) = s at *
  generalize decide (y.num < 0) = t at *
  rw [hx, hy, hb, he, ← sgn_mul]
  clear ha hb hc he hg hh e1 e2 e3 e4 hx hy hb0 he0 hxd hyd
  have e5 : ∀ (r : Bool) (p q k l : Nat), p * k = q * l → sgn r p * (k : Int) = sgn r q * (l : Int) := by
    intro r p q k l hpq
    have h1 : (p : Int) * k = (q : Int) * l := by rw [← Int.natCast_mul, hpq, Int.natCast_mul]
    unfold sgn
    cases r
    · exact h1
    · simp only [if_true, Int.neg_mul, h1]
  exact e5 _ _ _ _ _ (by ac_rfl)

theorem one_at {w : World} {b : Nat} {e : TypeId} (hb : b = w.heap.size) : Num (w.alloc (.cells #[.int .u64 1] e)) (.slice (some ⟨b, 0, none⟩) 1 1) 1 := by
  subst hb; exact num_one (d := 1) (by decide) (by decide)

theorem bar_c (w : World) (v : Value) (q : Rat) (h : QIs w v q) :
    Calls Tryz.prog 97 #[v] w (RetNum w q.den) := by
  obtain ⟨a, k, c, a', k', c', rfl, h1, h2⟩ := h
  obtain ⟨a2, k2, c2, e, hk1, -, hk⟩ := num_zero h2
  injection e with e1 e2 e3
  subst e1; subst e2; subst e3
  have hd := q.den_pos
  obtain ⟨t, ht⟩ : ∃ t, t = decide (q.num < 0) := ⟨_, rfl⟩
  rw [← ht]
  clear ht
  by_cases h0 : q.den = 1
  · have hk0 : k' = 0 := hk1.2 (by unfold lowOf; rw [if_pos h0])
    subst hk0
    rw [h0]
    go_enter Tryz.func97, Tryz.ntmps97
    go_wp2_with fail
    go_ret
    exact ⟨_, rfl, ((G.refl _).alloc _).alloc _, one_at (by simp)⟩
  · have hl : lowOf q.den = q.den := by unfold lowOf; rw [if_neg h0]
    rw [hl] at h2 hk
    have hk2 : ((k' : Int) == 0) = false := by rw [hk]; simp; omega
    have H2 : Hid (Num w (.slice a' k' c') q.den) := h2
    clear hk hk1 h0 hl h1 hd h2
    go_enter Tryz.func97, Tryz.ntmps97
    go_wp2_with fail
    go_ret
    exact ⟨_, rfl, (G.refl _).alloc _, H2.out.G ((G.refl _).alloc _)⟩

set_option maxHeartbeats 1000000 in
theorem qmul_c (w : World) (v u : Value) (x y : Rat) (K : Nat) (hK : K ≤ 100000) (hK1 : 1 ≤ K) (hT : Tab w) (hx : QIs w v x) (hy : QIs w u y) (bx : QB x K) (by_ : QB y K) :
    Calls Tryz.prog 56 #[v, u] w (RetQ w (x * y)) := by
  have HBX : Hid (∀ w1, G w w1 → _) := fun w1 g => bar_c w1 v x (hx.G g)
  have HBY : Hid (∀ w1, G w w1 → _) := fun w1 g => bar_c w1 u y (hy.G g)
  have hlow := mul_low x y
  have hval := mul_val x y
  obtain ⟨a, k, c, a', k', c', rfl, hx1, hx2⟩ := hx
  obtain ⟨b, j, e, b', j', e', rfl, hy1, hy2⟩ := hy
  obtain ⟨bx1, bx2⟩ := bx
  obtain ⟨by1, by2⟩ := by_
  have hxd := x.den_pos
  have hyd := y.den_pos
  obtain ⟨g, hg⟩ : ∃ g, g = Nat.gcd x.num.natAbs y.den := ⟨_, rfl⟩
  obtain ⟨h, hh⟩ : ∃ h, h = Nat.gcd y.num.natAbs x.den := ⟨_, rfl⟩
  have hg0 : 0 < g := by rw [hg]; exact Nat.gcd_pos_of_pos_right _ hyd
  have hh0 : 0 < h := by rw [hh]; exact Nat.gcd_pos_of_pos_right _ hxd
  have hgb : g < 2 ^ (64 * K) := Nat.lt_of_le_of_lt (by rw [hg]; exact Nat.gcd_le_right _ hyd) by2
  have hhb : h < 2 ^ (64 * K) := Nat.lt_of_le_of_lt (by rw [hh]; exact Nat.gcd_le_right _ hxd) bx2
  have HC1 : Hid (∀ w1 v1, G w w1 → Num w1 v1 y.den → Calls Tryz.prog 96 #[.slice a k c, v1] w1 (RetNum w1 g)) := fun w1 v1 g1 h1 => by
    rw [hg]; exact common_c w1 _ v1 _ _ K (by omega) hK1 (hT.G g1) (hx1.G g1) h1 bx1 by2
  have HC2 : Hid (∀ w1 v1, G w w1 → Num w1 v1 x.den → Calls Tryz.prog 96 #[.slice b j e, v1] w1 (RetNum w1 h)) := fun w1 v1 g1 h1 => by
    rw [hh]; exact common_c w1 _ v1 _ _ K (by omega) hK1 (hT.G g1) (hy1.G g1) h1 by1 bx2
  rw [← hg, ← hh] at hlow hval
  have HO1 : Hid (∀ w1 v1, G w w1 → Num w1 v1 g → _) := fun w1 v1 g1 h1 => over_c w1 (.slice a k c) v1 _ g K (by omega) hK1 (hx1.G g1) h1 bx1 hgb hg0
  have HO2 : Hid (∀ w1 v1, G w w1 → Num w1 v1 h → _) := fun w1 v1 g1 h1 => over_c w1 (.slice b j e) v1 _ h K (by omega) hK1 (hy1.G g1) h1 by1 hhb hh0
  have HO3 : Hid (∀ w1 v1 v2, Num w1 v1 x.den → Num w1 v2 h → _) := fun w1 v1 v2 h1 h2 => over_c w1 v1 v2 _ h K (by omega) hK1 h1 h2 bx2 hhb hh0
  have HO4 : Hid (∀ w1 v1 v2, Num w1 v1 y.den → Num w1 v2 g → _) := fun w1 v1 v2 h1 h2 => over_c w1 v1 v2 _ g K (by omega) hK1 h1 h2 by2 hgb hg0
  have q1 : x.num.natAbs / g < 2 ^ (64 * K) := Nat.lt_of_le_of_lt (Nat.div_le_self _ _) bx1
  have q2 : y.num.natAbs / h < 2 ^ (64 * K) := Nat.lt_of_le_of_lt (Nat.div_le_self _ _) by1
  have q3 : x.den / h < 2 ^ (64 * K) := Nat.lt_of_le_of_lt (Nat.div_le_self _ _) bx2
  have q4 : y.den / g < 2 ^ (64 * K) := Nat.lt_of_le_of_lt (Nat.div_le_self _ _) by2
  have q5 : 0 < x.den / h := Nat.div_pos (by rw [hh]; exact Nat.gcd_le_right _ hxd) hh0
  have q6 : 0 < y.den / g := Nat.div_pos (by rw [hg]; exact Nat.gcd_le_right _ hyd) hg0
  clear hg hh hg0 hh0 hgb hhb bx1 bx2 by1 by2 hxd hyd hx2 hy2 hx1 hy1 hT
  obtain ⟨s, hs⟩ : ∃ s, s = decide (x.num < 0) := ⟨_, rfl⟩
  obtain ⟨t, ht⟩ : ∃ t, t = decide (y.num < 0) := ⟨_, rfl⟩
  rw [← hs, ← ht] at hval
  rw [← hs] at HBX
  rw [← ht] at HBY
  rw [← hs, ← ht]
  clear hs ht
  generalize x.num.natAbs / g = A at *
  generalize y.num.natAbs / h = B at *
  generalize x.den / h = C at *
  generalize y.den / g = D at *
  have HT1 : Hid (∀ w1 v1 v2, Num w1 v1 A → Num w1 v2 B → _) := fun w1 v1 v2 h1 h2 => times_c w1 v1 v2 A B K (by omega) h1 h2 q1 q2
  have HT2 : Hid (∀ w1 v1 v2, Num w1 v1 C → Num w1 v2 D → _) := fun w1 v1 v2 h1 h2 => times_c w1 v1 v2 C D K (by omega) h1 h2 q3 q4
  have HS : Hid (∀ w1 v1, Num w1 v1 (A * B) → _) := fun w1 v1 h1 => signed_c w1 v1 (s != t) (A * B) h1
  have HF : Hid (∀ w1 v1 v2, WholeIs w1 v1 (sgn (s != t) (A * B)) → Num w1 v2 (C * D) → Calls Tryz.prog 100 #[v1, v2] w1 (RetQ w1 (x * y))) := fun w1 v1 v2 h1 h2 =>
    fraction_c w1 v1 v2 _ (C * D) (K + K) (x * y) h1 h2 (Nat.mul_pos q5 q6) (lt_mul_pow q3 q4) (fun _ => by rw [abs_sgn]; exact hlow) hval
  clear q1 q2 q3 q4 q5 q6 hlow hval
  generalize A * B = N at *
  generalize C * D = M at *
  generalize sgn (s != t) N = z at *
  obtain ⟨p, hp⟩ : ∃ p, p = x.den := ⟨_, rfl⟩
  obtain ⟨r, hr⟩ : ∃ r, r = y.den := ⟨_, rfl⟩
  rw [← hp] at HBX HC2 HO3
  rw [← hr] at HBY HC1 HO4
  clear hp hr
  generalize x * y = q at *
  go_enter Tryz.func56, Tryz.ntmps56
  go_wp2_with fail
  have g0 : G w (World.alloc (World.alloc (w.alloc (.cells #[.bool s, .slice a k c, .slice a' k' c'] 96)) (.cells #[.bool t, .slice b j e, .slice b' j' e'] 96)) (.cells #[.bool false, .slice none 0 0, .slice none 0 0] 96)) := ((((G.refl w).alloc _).alloc _).alloc _)
  have R0 : Hid (Rec (World.alloc (World.alloc (w.alloc (.cells #[.bool s, .slice a k c, .slice a' k' c'] 96)) (.cells #[.bool t, .slice b j e, .slice b' j' e'] 96)) (.cells #[.bool false, .slice none 0 0, .slice none 0 0] 96)) (w.heap.size) [.bool s, .slice a k c, .slice a' k' c']) := by
    have h := Rec.new3 w (.bool s) (.slice a k c) (.slice a' k' c') 96
    exact (Rec.G (Rec.G h ((G.refl (w.alloc (.cells #[.bool s, .slice a k c, .slice a' k' c'] 96))).alloc (.cells #[.bool t, .slice b j e, .slice b' j' e'] 96))) ((G.refl (World.alloc (w.alloc (.cells #[.bool s, .slice a k c, .slice a' k' c'] 96)) (.cells #[.bool t, .slice b j e, .slice b' j' e'] 96))).alloc (.cells #[.bool false, .slice none 0 0, .slice none 0 0] 96)))
  have R1 : Hid (Rec (World.alloc (World.alloc (w.alloc (.cells #[.bool s, .slice a k c, .slice a' k' c'] 96)) (.cells #[.bool t, .slice b j e, .slice b' j' e'] 96)) (.cells #[.bool false, .slice none 0 0, .slice none 0 0] 96)) (w.heap.size + 1) [.bool t, .slice b j e, .slice b' j' e']) := by
    have h := Rec.new3 (w.alloc (.cells #[.bool s, .slice a k c, .slice a' k' c'] 96)) (.bool t) (.slice b j e) (.slice b' j' e') 96
    rw [show (w.alloc (.cells #[.bool s, .slice a k c, .slice a' k' c'] 96)).heap.size = w.heap.size + 1 from by simp] at h
    exact (Rec.G h ((G.refl (World.alloc (w.alloc (.cells #[.bool s, .slice a k c, .slice a' k' c'] 96)) (.cells #[.bool t, .slice b j e, .slice b' j' e'] 96))).alloc (.cells #[.bool false, .slice none 0 0, .slice none 0 0] 96)))
  have R2 : Hid (Rec (World.alloc (World.alloc (w.alloc (.cells #[.bool s, .slice a k c, .slice a' k' c'] 96)) (.cells #[.bool t, .slice b j e, .slice b' j' e'] 96)) (.cells #[.bool false, .slice none 0 0, .slice none 0 0] 96)) (w.heap.size + 2) [.bool false, .slice none 0 0, .slice none 0 0]) := by
    have h := Rec.new3 (World.alloc (w.alloc (.cells #[.bool s, .slice a k c, .slice a' k' c'] 96)) (.cells #[.bool t, .slice b j e, .slice b' j' e'] 96)) (.bool false) (.slice none 0 0) (.slice none 0 0) 96
    rw [show (World.alloc (w.alloc (.cells #[.bool s, .slice a k c, .slice a' k' c'] 96)) (.cells #[.bool t, .slice b j e, .slice b' j' e'] 96)).heap.size = w.heap.size + 2 from by simp] at h
    exact h
  have hz0 : (World.alloc (World.alloc (w.alloc (.cells #[.bool s, .slice a k c, .slice a' k' c'] 96)) (.cells #[.bool t, .slice b j e, .slice b' j' e'] 96)) (.cells #[.bool false, .slice none 0 0, .slice none 0 0] 96)).heap.size = w.heap.size + 3 := by simp
  generalize (World.alloc (World.alloc (w.alloc (.cells #[.bool s, .slice a k c, .slice a' k' c'] 96)) (.cells #[.bool t, .slice b j e, .slice b' j' e'] 96)) (.cells #[.bool false, .slice none 0 0, .slice none 0 0] 96)) = w0 at *
  refine region_each 14 0 #[true, true, true, true, true, true, true, true, true, true, true, true, true, true] [.is (.pointer (some ⟨w.heap.size, 0, none⟩)), .is (.pointer (some ⟨w.heap.size, 1, none⟩)), .is (.slice a k c), .is (.agg #[.bool t, .slice b j e, .slice b' j' e']), .any (fun v w' => Num w' v (r)), .any (fun v w' => Num w' v (g)), .is (.pointer (some ⟨w.heap.size + 1, 0, none⟩)), .is (.pointer (some ⟨w.heap.size + 1, 1, none⟩)), .is (.slice b j e), .is (.agg #[.bool s, .slice a k c, .slice a' k' c']), .any (fun v w' => Num w' v (p)), .any (fun v w' => Num w' v (h)), .any (fun v w' => Num w' v (g)), .any (fun v w' => Num w' v (h))] [some 9, some 10, some 11, some 12, some 13, some 14, some 15, some 16, some 17, some 18, some 19, some 20, some 5, some 6] (by kernel_rfl) (by kernel_rfl) rfl (by kernel_rfl) (by repeat (first | exact trivial | refine ⟨fun _ _ _ g h => by first | exact h.G g | exact fun w3 g3 => h w3 (G.trans g g3), ?_⟩)) (by kernel_rfl) (by kernel_rfl) ?_
  refine Letters.is ?_
  refine Letters.is ?_
  refine Letters.is ?_
  refine Letters.is ?_
  refine Letters.any fun v4 => ?_
  refine Letters.any fun v5 => ?_
  refine Letters.is ?_
  refine Letters.is ?_
  refine Letters.is ?_
  refine Letters.is ?_
  refine Letters.any fun v10 => ?_
  refine Letters.any fun v11 => ?_
  refine Letters.any fun v12 => ?_
  refine Letters.any fun v13 => ?_
  refine Letters.nil ?_
  intro A hA
  simp only [fillD, Act.put, List.setIfInBounds_toArray, List.set_cons_zero, List.set_cons_succ] at hA
  subst hA
  refine ⟨?_, ?_⟩
  · skip
    refine Eaches.cons rfl ?_ ?_
    · intro W hW hD K hK
      clear hD
      go_simp
      exact hK.out _ _ ⟨_, by first | (simp only [Act.put, List.setIfInBounds_toArray, List.set_cons_zero, List.set_cons_succ]; done) | simp only [Act.put, List.setIfInBounds_toArray, List.set_cons_zero, List.set_cons_succ, *], G.refl _, rfl⟩
    refine Eaches.cons rfl ?_ ?_
    · intro W hW hD K hK
      clear hD
      go_simp
      exact hK.out _ _ ⟨_, by first | (simp only [Act.put, List.setIfInBounds_toArray, List.set_cons_zero, List.set_cons_succ]; done) | simp only [Act.put, List.setIfInBounds_toArray, List.set_cons_zero, List.set_cons_succ, *], G.refl _, rfl⟩
    refine Eaches.cons rfl ?_ ?_
    · intro W hW hD K hK
      clear hD
      have hR0 := Rec.f3 (Rec.G R0.out hW)
      have hR0_0 := hR0.1
      have hR0_1 := hR0.2.1
      have hR0_2 := hR0.2.2.1
      clear hR0
      have hR1 := Rec.f3 (Rec.G R1.out hW)
      have hR1_0 := hR1.1
      have hR1_1 := hR1.2.1
      have hR1_2 := hR1.2.2.1
      clear hR1
      go_simp
      exact hK.out _ _ ⟨_, by first | (simp only [Act.put, List.setIfInBounds_toArray, List.set_cons_zero, List.set_cons_succ]; done) | simp only [Act.put, List.setIfInBounds_toArray, List.set_cons_zero, List.set_cons_succ, *], G.refl _, rfl⟩
    refine Eaches.cons rfl ?_ ?_
    · intro W hW hD K hK
      clear hD
      have hR0 := Rec.f3 (Rec.G R0.out hW)
      have hR0_0 := hR0.1
      have hR0_1 := hR0.2.1
      have hR0_2 := hR0.2.2.1
      clear hR0
      have hR1 := Rec.f3 (Rec.G R1.out hW)
      have hR1_0 := hR1.1
      have hR1_1 := hR1.2.1
      have hR1_2 := hR1.2.2.1
      clear hR1
      go_simp
      exact hK.out _ _ ⟨_, by first | (simp only [Act.put, List.setIfInBounds_toArray, List.set_cons_zero, List.set_cons_succ]; done) | simp only [Act.put, List.setIfInBounds_toArray, List.set_cons_zero, List.set_cons_succ, *], G.refl _, rfl⟩
    refine Eaches.cons rfl ?_ ?_
    · intro W hW hD K hK
      clear hD
      go_simp
      go_wp2_with (go_at_call 97; refine Calls.mono (P := Tryz.prog) (HBY.out W (G.trans g0 hW)) ?_; intro e w9 hs; obtain ⟨u9, rfl, g9, hn9⟩ := hs)
      exact hK.out _ _ ⟨_, by first | (simp only [Act.put, List.setIfInBounds_toArray, List.set_cons_zero, List.set_cons_succ]; done) | simp only [Act.put, List.setIfInBounds_toArray, List.set_cons_zero, List.set_cons_succ, *], g9, hn9⟩
    refine Eaches.cons rfl ?_ ?_
    · intro W hW hD K hK
      have h4 := Deps.get (v := v4) 4 hD rfl rfl (by kernel_rfl)
      clear hD
      go_simp
      go_wp2_with (go_at_call 96; refine Calls.mono (P := Tryz.prog) (HC1.out W v4 (G.trans g0 hW) h4) ?_; intro e w9 hs; obtain ⟨u9, rfl, g9, hn9⟩ := hs)
      exact hK.out _ _ ⟨_, by first | (simp only [Act.put, List.setIfInBounds_toArray, List.set_cons_zero, List.set_cons_succ]; done) | simp only [Act.put, List.setIfInBounds_toArray, List.set_cons_zero, List.set_cons_succ, *], g9, hn9⟩
    refine Eaches.cons rfl ?_ ?_
    · intro W hW hD K hK
      clear hD
      go_simp
      exact hK.out _ _ ⟨_, by first | (simp only [Act.put, List.setIfInBounds_toArray, List.set_cons_zero, List.set_cons_succ]; done) | simp only [Act.put, List.setIfInBounds_toArray, List.set_cons_zero, List.set_cons_succ, *], G.refl _, rfl⟩
    refine Eaches.cons rfl ?_ ?_
    · intro W hW hD K hK
      clear hD
      go_simp
      exact hK.out _ _ ⟨_, by first | (simp only [Act.put, List.setIfInBounds_toArray, List.set_cons_zero, List.set_cons_succ]; done) | simp only [Act.put, List.setIfInBounds_toArray, List.set_cons_zero, List.set_cons_succ, *], G.refl _, rfl⟩
    refine Eaches.cons rfl ?_ ?_
    · intro W hW hD K hK
      clear hD
      have hR0 := Rec.f3 (Rec.G R0.out hW)
      have hR0_0 := hR0.1
      have hR0_1 := hR0.2.1
      have hR0_2 := hR0.2.2.1
      clear hR0
      have hR1 := Rec.f3 (Rec.G R1.out hW)
      have hR1_0 := hR1.1
      have hR1_1 := hR1.2.1
      have hR1_2 := hR1.2.2.1
      clear hR1
      go_simp
      exact hK.out _ _ ⟨_, by first | (simp only [Act.put, List.setIfInBounds_toArray, List.set_cons_zero, List.set_cons_succ]; done) | simp only [Act.put, List.setIfInBounds_toArray, List.set_cons_zero, List.set_cons_succ, *], G.refl _, rfl⟩
    refine Eaches.cons rfl ?_ ?_
    · intro W hW hD K hK
      clear hD
      have hR0 := Rec.f3 (Rec.G R0.out hW)
      have hR0_0 := hR0.1
      have hR0_1 := hR0.2.1
      have hR0_2 := hR0.2.2.1
      clear hR0
      have hR1 := Rec.f3 (Rec.G R1.out hW)
      have hR1_0 := hR1.1
      have hR1_1 := hR1.2.1
      have hR1_2 := hR1.2.2.1
      clear hR1
      go_simp
      exact hK.out _ _ ⟨_, by first | (simp only [Act.put, List.setIfInBounds_toArray, List.set_cons_zero, List.set_cons_succ]; done) | simp only [Act.put, List.setIfInBounds_toArray, List.set_cons_zero, List.set_cons_succ, *], G.refl _, rfl⟩
    refine Eaches.cons rfl ?_ ?_
    · intro W hW hD K hK
      clear hD
      go_simp
      go_wp2_with (go_at_call 97; refine Calls.mono (P := Tryz.prog) (HBX.out W (G.trans g0 hW)) ?_; intro e w9 hs; obtain ⟨u9, rfl, g9, hn9⟩ := hs)
      exact hK.out _ _ ⟨_, by first | (simp only [Act.put, List.setIfInBounds_toArray, List.set_cons_zero, List.set_cons_succ]; done) | simp only [Act.put, List.setIfInBounds_toArray, List.set_cons_zero, List.set_cons_succ, *], g9, hn9⟩
    refine Eaches.cons rfl ?_ ?_
    · intro W hW hD K hK
      have h10 := Deps.get (v := v10) 10 hD rfl rfl (by kernel_rfl)
      clear hD
      go_simp
      go_wp2_with (go_at_call 96; refine Calls.mono (P := Tryz.prog) (HC2.out W v10 (G.trans g0 hW) h10) ?_; intro e w9 hs; obtain ⟨u9, rfl, g9, hn9⟩ := hs)
      exact hK.out _ _ ⟨_, by first | (simp only [Act.put, List.setIfInBounds_toArray, List.set_cons_zero, List.set_cons_succ]; done) | simp only [Act.put, List.setIfInBounds_toArray, List.set_cons_zero, List.set_cons_succ, *], g9, hn9⟩
    refine Eaches.cons rfl ?_ ?_
    · intro W hW hD K hK
      have h5 := Deps.get (v := v5) 5 hD rfl rfl (by kernel_rfl)
      clear hD
      go_simp
      exact hK.out _ _ ⟨_, by first | (simp only [Act.put, List.setIfInBounds_toArray, List.set_cons_zero, List.set_cons_succ]; done) | simp only [Act.put, List.setIfInBounds_toArray, List.set_cons_zero, List.set_cons_succ, *], G.refl _, h5⟩
    refine Eaches.cons rfl ?_ ?_
    · intro W hW hD K hK
      have h11 := Deps.get (v := v11) 11 hD rfl rfl (by kernel_rfl)
      clear hD
      go_simp
      exact hK.out _ _ ⟨_, by first | (simp only [Act.put, List.setIfInBounds_toArray, List.set_cons_zero, List.set_cons_succ]; done) | simp only [Act.put, List.setIfInBounds_toArray, List.set_cons_zero, List.set_cons_succ, *], G.refl _, h11⟩
    exact Eaches.nil
  intro w1 g1 hH
  have h12 := Helds.get (v := v12) 12 hH rfl rfl
  have h13 := Helds.get (v := v13) 13 hH rfl rfl
  clear hH
  refine wpAny_done (by kernel_rfl) ?_ _
  have H12 : Hid (Num w1 v12 g) := h12
  have H13 : Hid (Num w1 v13 h) := h13
  clear h12 h13 HC1 HC2
  have g01 := G.trans g0 g1
  have S0 : Hid _ := Rec.G R0.out g1
  have S1 : Hid _ := Rec.G R1.out g1
  have S2 : Hid _ := Rec.G R2.out g1
  clear R0 R1 R2 g0 g1
  go_wp2_with fail
  refine region_each 12 0 #[true, true, true, true, true, true, true, true, true, true, true, true] [.is (.pointer (some ⟨w.heap.size, 0, none⟩)), .is (.pointer (some ⟨w.heap.size, 1, none⟩)), .is (.slice a k c), .is (v12), .any (fun v w' => Num w' v (A)), .is (.pointer (some ⟨w.heap.size + 1, 0, none⟩)), .is (.pointer (some ⟨w.heap.size + 1, 1, none⟩)), .is (.slice b j e), .is (v13), .any (fun v w' => Num w' v (B)), .any (fun v w' => Num w' v (N)), .any (fun v w' => Num w' v (N))] [some 21, some 22, some 23, some 24, some 25, some 26, some 27, some 28, some 29, some 30, some 31, some 7] (by kernel_rfl) (by kernel_rfl) rfl (by kernel_rfl) (by repeat (first | exact trivial | refine ⟨fun _ _ _ g h => by first | exact h.G g | exact fun w3 g3 => h w3 (G.trans g g3), ?_⟩)) (by kernel_rfl) (by kernel_rfl) ?_
  refine Letters.is ?_
  refine Letters.is ?_
  refine Letters.is ?_
  refine Letters.is ?_
  refine Letters.any fun v4 => ?_
  refine Letters.is ?_
  refine Letters.is ?_
  refine Letters.is ?_
  refine Letters.is ?_
  refine Letters.any fun v9 => ?_
  refine Letters.any fun v10 => ?_
  refine Letters.any fun v11 => ?_
  refine Letters.nil ?_
  intro A hA
  simp only [fillD, Act.put, List.setIfInBounds_toArray, List.set_cons_zero, List.set_cons_succ] at hA
  subst hA
  refine ⟨?_, ?_⟩
  · skip
    refine Eaches.cons rfl ?_ ?_
    · intro W hW hD K hK
      clear hD
      go_simp
      exact hK.out _ _ ⟨_, by first | (simp only [Act.put, List.setIfInBounds_toArray, List.set_cons_zero, List.set_cons_succ]; done) | simp only [Act.put, List.setIfInBounds_toArray, List.set_cons_zero, List.set_cons_succ, *], G.refl _, rfl⟩
    refine Eaches.cons rfl ?_ ?_
    · intro W hW hD K hK
      clear hD
      go_simp
      exact hK.out _ _ ⟨_, by first | (simp only [Act.put, List.setIfInBounds_toArray, List.set_cons_zero, List.set_cons_succ]; done) | simp only [Act.put, List.setIfInBounds_toArray, List.set_cons_zero, List.set_cons_succ, *], G.refl _, rfl⟩
    refine Eaches.cons rfl ?_ ?_
    · intro W hW hD K hK
      clear hD
      have hS0 := Rec.f3 (Rec.G S0.out hW)
      have hS0_0 := hS0.1
      have hS0_1 := hS0.2.1
      have hS0_2 := hS0.2.2.1
      clear hS0
      have hS1 := Rec.f3 (Rec.G S1.out hW)
      have hS1_0 := hS1.1
      have hS1_1 := hS1.2.1
      have hS1_2 := hS1.2.2.1
      clear hS1
      go_simp
      exact hK.out _ _ ⟨_, by first | (simp only [Act.put, List.setIfInBounds_toArray, List.set_cons_zero, List.set_cons_succ]; done) | simp only [Act.put, List.setIfInBounds_toArray, List.set_cons_zero, List.set_cons_succ, *], G.refl _, rfl⟩
    refine Eaches.cons rfl ?_ ?_
    · intro W hW hD K hK
      clear hD
      go_simp
      exact hK.out _ _ ⟨_, by first | (simp only [Act.put, List.setIfInBounds_toArray, List.set_cons_zero, List.set_cons_succ]; done) | simp only [Act.put, List.setIfInBounds_toArray, List.set_cons_zero, List.set_cons_succ, *], G.refl _, rfl⟩
    refine Eaches.cons rfl ?_ ?_
    · intro W hW hD K hK
      clear hD
      go_simp
      go_wp2_with (go_at_call 98; refine Calls.mono (P := Tryz.prog) (HO1.out W v12 (G.trans g01 hW) (Num.G H12.out hW)) ?_; intro e w9 hs; obtain ⟨u9, rfl, g9, hn9⟩ := hs)
      exact hK.out _ _ ⟨_, by first | (simp only [Act.put, List.setIfInBounds_toArray, List.set_cons_zero, List.set_cons_succ]; done) | simp only [Act.put, List.setIfInBounds_toArray, List.set_cons_zero, List.set_cons_succ, *], g9, hn9⟩
    refine Eaches.cons rfl ?_ ?_
    · intro W hW hD K hK
      clear hD
      go_simp
      exact hK.out _ _ ⟨_, by first | (simp only [Act.put, List.setIfInBounds_toArray, List.set_cons_zero, List.set_cons_succ]; done) | simp only [Act.put, List.setIfInBounds_toArray, List.set_cons_zero, List.set_cons_succ, *], G.refl _, rfl⟩
    refine Eaches.cons rfl ?_ ?_
    · intro W hW hD K hK
      clear hD
      go_simp
      exact hK.out _ _ ⟨_, by first | (simp only [Act.put, List.setIfInBounds_toArray, List.set_cons_zero, List.set_cons_succ]; done) | simp only [Act.put, List.setIfInBounds_toArray, List.set_cons_zero, List.set_cons_succ, *], G.refl _, rfl⟩
    refine Eaches.cons rfl ?_ ?_
    · intro W hW hD K hK
      clear hD
      have hS0 := Rec.f3 (Rec.G S0.out hW)
      have hS0_0 := hS0.1
      have hS0_1 := hS0.2.1
      have hS0_2 := hS0.2.2.1
      clear hS0
      have hS1 := Rec.f3 (Rec.G S1.out hW)
      have hS1_0 := hS1.1
      have hS1_1 := hS1.2.1
      have hS1_2 := hS1.2.2.1
      clear hS1
      go_simp
      exact hK.out _ _ ⟨_, by first | (simp only [Act.put, List.setIfInBounds_toArray, List.set_cons_zero, List.set_cons_succ]; done) | simp only [Act.put, List.setIfInBounds_toArray, List.set_cons_zero, List.set_cons_succ, *], G.refl _, rfl⟩
    refine Eaches.cons rfl ?_ ?_
    · intro W hW hD K hK
      clear hD
      go_simp
      exact hK.out _ _ ⟨_, by first | (simp only [Act.put, List.setIfInBounds_toArray, List.set_cons_zero, List.set_cons_succ]; done) | simp only [Act.put, List.setIfInBounds_toArray, List.set_cons_zero, List.set_cons_succ, *], G.refl _, rfl⟩
    refine Eaches.cons rfl ?_ ?_
    · intro W hW hD K hK
      clear hD
      go_simp
      go_wp2_with (go_at_call 98; refine Calls.mono (P := Tryz.prog) (HO2.out W v13 (G.trans g01 hW) (Num.G H13.out hW)) ?_; intro e w9 hs; obtain ⟨u9, rfl, g9, hn9⟩ := hs)
      exact hK.out _ _ ⟨_, by first | (simp only [Act.put, List.setIfInBounds_toArray, List.set_cons_zero, List.set_cons_succ]; done) | simp only [Act.put, List.setIfInBounds_toArray, List.set_cons_zero, List.set_cons_succ, *], g9, hn9⟩
    refine Eaches.cons rfl ?_ ?_
    · intro W hW hD K hK
      have h4 := Deps.get (v := v4) 4 hD rfl rfl (by kernel_rfl)
      have h9 := Deps.get (v := v9) 9 hD rfl rfl (by kernel_rfl)
      clear hD
      go_simp
      go_wp2_with (go_at_call 99; refine Calls.mono (P := Tryz.prog) (HT1.out W v4 v9 h4 h9) ?_; intro e w9 hs; obtain ⟨u9, rfl, g9, hn9⟩ := hs)
      exact hK.out _ _ ⟨_, by first | (simp only [Act.put, List.setIfInBounds_toArray, List.set_cons_zero, List.set_cons_succ]; done) | simp only [Act.put, List.setIfInBounds_toArray, List.set_cons_zero, List.set_cons_succ, *], g9, hn9⟩
    refine Eaches.cons rfl ?_ ?_
    · intro W hW hD K hK
      have h10 := Deps.get (v := v10) 10 hD rfl rfl (by kernel_rfl)
      clear hD
      go_simp
      exact hK.out _ _ ⟨_, by first | (simp only [Act.put, List.setIfInBounds_toArray, List.set_cons_zero, List.set_cons_succ]; done) | simp only [Act.put, List.setIfInBounds_toArray, List.set_cons_zero, List.set_cons_succ, *], G.refl _, h10⟩
    exact Eaches.nil
  intro w2 g2 hH
  have h11 := Helds.get (v := v11) 11 hH rfl rfl
  clear hH
  refine wpAny_done (by kernel_rfl) ?_ _
  have H11 : Hid (Num w2 v11 N) := h11
  have H12' : Hid (Num w2 v12 g) := H12.out.G g2
  have H13' : Hid (Num w2 v13 h) := H13.out.G g2
  have g02 := G.trans g01 g2
  have T0 : Hid _ := Rec.G S0.out g2
  have T1 : Hid _ := Rec.G S1.out g2
  have T2 : Hid _ := Rec.G S2.out g2
  clear h11 H12 H13 HO1 HO2 HT1 S0 S1 S2 g01 g2
  go_wp2_with fail
  refine region_each 10 0 #[true, true, true, true, true, true, true, true, true, true] [.is (.agg #[.bool s, .slice a k c, .slice a' k' c']), .any (fun v w' => Num w' v (p)), .is (v13), .any (fun v w' => Num w' v (C)), .is (.agg #[.bool t, .slice b j e, .slice b' j' e']), .any (fun v w' => Num w' v (r)), .is (v12), .any (fun v w' => Num w' v (D)), .any (fun v w' => Num w' v (M)), .any (fun v w' => Num w' v (M))] [some 32, some 33, some 34, some 35, some 36, some 37, some 38, some 39, some 40, some 8] (by kernel_rfl) (by kernel_rfl) rfl (by kernel_rfl) (by repeat (first | exact trivial | refine ⟨fun _ _ _ g h => by first | exact h.G g | exact fun w3 g3 => h w3 (G.trans g g3), ?_⟩)) (by kernel_rfl) (by kernel_rfl) ?_
  refine Letters.is ?_
  refine Letters.any fun v1 => ?_
  refine Letters.is ?_
  refine Letters.any fun v3 => ?_
  refine Letters.is ?_
  refine Letters.any fun v5 => ?_
  refine Letters.is ?_
  refine Letters.any fun v7 => ?_
  refine Letters.any fun v8 => ?_
  refine Letters.any fun v9 => ?_
  refine Letters.nil ?_
  intro A hA
  simp only [fillD, Act.put, List.setIfInBounds_toArray, List.set_cons_zero, List.set_cons_succ] at hA
  subst hA
  refine ⟨?_, ?_⟩
  · skip
    refine Eaches.cons rfl ?_ ?_
    · intro W hW hD K hK
      clear hD
      have hT0 := Rec.f3 (Rec.G T0.out hW)
      have hT0_0 := hT0.1
      have hT0_1 := hT0.2.1
      have hT0_2 := hT0.2.2.1
      clear hT0
      have hT1 := Rec.f3 (Rec.G T1.out hW)
      have hT1_0 := hT1.1
      have hT1_1 := hT1.2.1
      have hT1_2 := hT1.2.2.1
      clear hT1
      go_simp
      exact hK.out _ _ ⟨_, by first | (simp only [Act.put, List.setIfInBounds_toArray, List.set_cons_zero, List.set_cons_succ]; done) | simp only [Act.put, List.setIfInBounds_toArray, List.set_cons_zero, List.set_cons_succ, *], G.refl _, rfl⟩
    refine Eaches.cons rfl ?_ ?_
    · intro W hW hD K hK
      clear hD
      go_simp
      go_wp2_with (go_at_call 97; refine Calls.mono (P := Tryz.prog) (HBX.out W (G.trans g02 hW)) ?_; intro e w9 hs; obtain ⟨u9, rfl, g9, hn9⟩ := hs)
      exact hK.out _ _ ⟨_, by first | (simp only [Act.put, List.setIfInBounds_toArray, List.set_cons_zero, List.set_cons_succ]; done) | simp only [Act.put, List.setIfInBounds_toArray, List.set_cons_zero, List.set_cons_succ, *], g9, hn9⟩
    refine Eaches.cons rfl ?_ ?_
    · intro W hW hD K hK
      clear hD
      go_simp
      exact hK.out _ _ ⟨_, by first | (simp only [Act.put, List.setIfInBounds_toArray, List.set_cons_zero, List.set_cons_succ]; done) | simp only [Act.put, List.setIfInBounds_toArray, List.set_cons_zero, List.set_cons_succ, *], G.refl _, rfl⟩
    refine Eaches.cons rfl ?_ ?_
    · intro W hW hD K hK
      have h1 := Deps.get (v := v1) 1 hD rfl rfl (by kernel_rfl)
      clear hD
      go_simp
      go_wp2_with (go_at_call 98; refine Calls.mono (P := Tryz.prog) (HO3.out W v1 v13 h1 (Num.G H13'.out hW)) ?_; intro e w9 hs; obtain ⟨u9, rfl, g9, hn9⟩ := hs)
      exact hK.out _ _ ⟨_, by first | (simp only [Act.put, List.setIfInBounds_toArray, List.set_cons_zero, List.set_cons_succ]; done) | simp only [Act.put, List.setIfInBounds_toArray, List.set_cons_zero, List.set_cons_succ, *], g9, hn9⟩
    refine Eaches.cons rfl ?_ ?_
    · intro W hW hD K hK
      clear hD
      have hT0 := Rec.f3 (Rec.G T0.out hW)
      have hT0_0 := hT0.1
      have hT0_1 := hT0.2.1
      have hT0_2 := hT0.2.2.1
      clear hT0
      have hT1 := Rec.f3 (Rec.G T1.out hW)
      have hT1_0 := hT1.1
      have hT1_1 := hT1.2.1
      have hT1_2 := hT1.2.2.1
      clear hT1
      go_simp
      exact hK.out _ _ ⟨_, by first | (simp only [Act.put, List.setIfInBounds_toArray, List.set_cons_zero, List.set_cons_succ]; done) | simp only [Act.put, List.setIfInBounds_toArray, List.set_cons_zero, List.set_cons_succ, *], G.refl _, rfl⟩
    refine Eaches.cons rfl ?_ ?_
    · intro W hW hD K hK
      clear hD
      go_simp
      go_wp2_with (go_at_call 97; refine Calls.mono (P := Tryz.prog) (HBY.out W (G.trans g02 hW)) ?_; intro e w9 hs; obtain ⟨u9, rfl, g9, hn9⟩ := hs)
      exact hK.out _ _ ⟨_, by first | (simp only [Act.put, List.setIfInBounds_toArray, List.set_cons_zero, List.set_cons_succ]; done) | simp only [Act.put, List.setIfInBounds_toArray, List.set_cons_zero, List.set_cons_succ, *], g9, hn9⟩
    refine Eaches.cons rfl ?_ ?_
    · intro W hW hD K hK
      clear hD
      go_simp
      exact hK.out _ _ ⟨_, by first | (simp only [Act.put, List.setIfInBounds_toArray, List.set_cons_zero, List.set_cons_succ]; done) | simp only [Act.put, List.setIfInBounds_toArray, List.set_cons_zero, List.set_cons_succ, *], G.refl _, rfl⟩
    refine Eaches.cons rfl ?_ ?_
    · intro W hW hD K hK
      have h5 := Deps.get (v := v5) 5 hD rfl rfl (by kernel_rfl)
      clear hD
      go_simp
      go_wp2_with (go_at_call 98; refine Calls.mono (P := Tryz.prog) (HO4.out W v5 v12 h5 (Num.G H12'.out hW)) ?_; intro e w9 hs; obtain ⟨u9, rfl, g9, hn9⟩ := hs)
      exact hK.out _ _ ⟨_, by first | (simp only [Act.put, List.setIfInBounds_toArray, List.set_cons_zero, List.set_cons_succ]; done) | simp only [Act.put, List.setIfInBounds_toArray, List.set_cons_zero, List.set_cons_succ, *], g9, hn9⟩
    refine Eaches.cons rfl ?_ ?_
    · intro W hW hD K hK
      have h3 := Deps.get (v := v3) 3 hD rfl rfl (by kernel_rfl)
      have h7 := Deps.get (v := v7) 7 hD rfl rfl (by kernel_rfl)
      clear hD
      go_simp
      go_wp2_with (go_at_call 99; refine Calls.mono (P := Tryz.prog) (HT2.out W v3 v7 h3 h7) ?_; intro e w9 hs; obtain ⟨u9, rfl, g9, hn9⟩ := hs)
      exact hK.out _ _ ⟨_, by first | (simp only [Act.put, List.setIfInBounds_toArray, List.set_cons_zero, List.set_cons_succ]; done) | simp only [Act.put, List.setIfInBounds_toArray, List.set_cons_zero, List.set_cons_succ, *], g9, hn9⟩
    refine Eaches.cons rfl ?_ ?_
    · intro W hW hD K hK
      have h8 := Deps.get (v := v8) 8 hD rfl rfl (by kernel_rfl)
      clear hD
      go_simp
      exact hK.out _ _ ⟨_, by first | (simp only [Act.put, List.setIfInBounds_toArray, List.set_cons_zero, List.set_cons_succ]; done) | simp only [Act.put, List.setIfInBounds_toArray, List.set_cons_zero, List.set_cons_succ, *], G.refl _, h8⟩
    exact Eaches.nil
  intro w3 g3 hH
  have h9 := Helds.get (v := v9) 9 hH rfl rfl
  clear hH
  refine wpAny_done (by kernel_rfl) ?_ _
  have H9 : Hid (Num w3 v9 M) := h9
  have H11' : Hid (Num w3 v11 N) := H11.out.G g3
  have g03 := G.trans g02 g3
  have U0 : Hid _ := Rec.G T0.out g3
  have U1 : Hid _ := Rec.G T1.out g3
  have U2 : Hid _ := Rec.G T2.out g3
  clear h9 H11 H12' H13' HO3 HO4 HT2 T0 T1 T2 g02 g3 HBX HBY
  have HS3 : Hid _ := HS.out w3 v11 H11'.out
  have hSU0 := Rec.f3 (Rec.G U0.out (G.refl _))
  have hSU0_0 := hSU0.1
  have hSU0_1 := hSU0.2.1
  have hSU0_2 := hSU0.2.2.1
  have hSU0_3 := hSU0.2.2.2.1
  have hSU0_4 := hSU0.2.2.2.2.1
  have hSU0_5 := hSU0.2.2.2.2.2
  clear hSU0
  have hSU1 := Rec.f3 (Rec.G U1.out (G.refl _))
  have hSU1_0 := hSU1.1
  have hSU1_1 := hSU1.2.1
  have hSU1_2 := hSU1.2.2.1
  have hSU1_3 := hSU1.2.2.2.1
  have hSU1_4 := hSU1.2.2.2.2.1
  have hSU1_5 := hSU1.2.2.2.2.2
  clear hSU1
  go_wp2_with fail
  refine Calls.mono (P := Tryz.prog) HS3.out ?_
  intro e4 w4 hs
  obtain ⟨v20, rfl, g4, h20⟩ := hs
  have HF4 : Hid _ := HF.out w4 v20 v9 h20 (H9.out.G g4)
  clear HS HS3 HF h20 H9 H11'
  go_wp2_with fail
  refine Calls.mono (P := Tryz.prog) HF4.out ?_
  intro e4 w5 hs
  obtain ⟨v21, rfl, g5, h21⟩ := hs
  clear HF4
  clear hSU0_0 hSU0_1 hSU0_2 hSU0_3 hSU0_4 hSU0_5 hSU1_0 hSU1_1 hSU1_2 hSU1_3 hSU1_4 hSU1_5
  obtain ⟨a8, k8, c8, a9, k9, c9, rfl, hm8, hm9⟩ := h21
  have HN8 : Hid (Num w5 (.slice a8 k8 c8) (q).num.natAbs) := hm8
  have HN9 : Hid (Num w5 (.slice a9 k9 c9) (lowOf (q).den)) := hm9
  obtain ⟨t9, ht9⟩ : ∃ t, t = decide ((q).num < 0) := ⟨_, rfl⟩
  rw [← ht9]
  have HT9 : Hid (t9 = decide ((q).num < 0)) := ht9
  clear hm8 hm9 ht9
  have hS := Rec.f3 (Rec.G U2.out ((G.trans g4 g5)))
  have hS_0 := hS.1
  have hS_1 := hS.2.1
  have hS_2 := hS.2.2.1
  have hS_3 := hS.2.2.2.1
  have hS_4 := hS.2.2.2.2.1
  have hS_5 := hS.2.2.2.2.2
  clear hS
  have HN8' : Num _ _ _ := num_set3 (u1 := .bool t9) (u2 := .slice a8 k8 c8) (u3 := .slice a9 k9 c9) HN8.out (Rec.G U2.out (G.trans g4 g5)) trivial trivial trivial
  have HN9' : Num _ _ _ := num_set3 (u1 := .bool t9) (u2 := .slice a8 k8 c8) (u3 := .slice a9 k9 c9) HN9.out (Rec.G U2.out (G.trans g4 g5)) trivial trivial trivial
  go_wp2_with fail
  have hT : Hid (Rec (World.setCell (World.setCell (World.setCell w5 ⟨w.heap.size + 2, 0, none⟩ (.bool t9)) ⟨w.heap.size + 2, 1, none⟩ (.slice a8 k8 c8)) ⟨w.heap.size + 2, 2, none⟩ (.slice a9 k9 c9)) (w.heap.size + 2) [.bool t9, .slice a8 k8 c8, .slice a9 k9 c9]) := Rec.set3 (Rec.G U2.out (G.trans g4 g5))
  have g9 := Rec.g3 (b := w.heap.size + 2) (u := .bool t9) (v := .slice a8 k8 c8) (x := .slice a9 k9 c9) (G.trans g03 (G.trans g4 g5)) (by omega)
  generalize (World.setCell (World.setCell (World.setCell w5 ⟨w.heap.size + 2, 0, none⟩ (.bool t9)) ⟨w.heap.size + 2, 1, none⟩ (.slice a8 k8 c8)) ⟨w.heap.size + 2, 2, none⟩ (.slice a9 k9 c9)) = w9 at *
  have hF := Rec.f3 (Rec.G hT.out ((G.refl _)))
  have hF_0 := hF.1
  have hF_1 := hF.2.1
  have hF_2 := hF.2.2.1
  have hF_3 := hF.2.2.2.1
  have hF_4 := hF.2.2.2.2.1
  have hF_5 := hF.2.2.2.2.2
  clear hF
  refine bodyPost_ret (v := .agg #[.bool t9, .slice a8 k8 c8, .slice a9 k9 c9]) (by simp [results, Tryz.results56, go_sem, *]) rfl ?_
  exact ⟨_, rfl, g9, a8, k8, c8, a9, k9, c9, by rw [← HT9.out], HN8', HN9'⟩
end Go.Proofs.YtielcpkcfpbanacGreatDoor.EN
namespace Go.Proofs.YtielcpkcfpbanacGreatDoor.EN
open Go.ChangeShapes Go.WideShapes Go.ChangeAt Go.RowKit

/-- A call hands back a fraction and no error, or an error. -/
def RetQE (w : World) (q : Rat) (c : Int) (e : Ending) (w' : World) : Prop := ∃ v, e = .returned (.tuple #[v, .int .i64 c]) ∧ G w w' ∧ QIs w' v q

theorem QIs.set3 {w : World} {v : Value} {q : Rat} {b : Nat} {x y z u1 u2 u3 : Value} (h : QIs w v q) (r : Rec w b [x, y, z]) (hx : noInt x) (hy : noInt y) (hz : noInt z) : QIs (((w.setCell ⟨b, 0, none⟩ u1).setCell ⟨b, 1, none⟩ u2).setCell ⟨b, 2, none⟩ u3) v q := by
  obtain ⟨a, k, c, a', k', c', e, h1, h2⟩ := h
  exact ⟨a, k, c, a', k', c', e, num_set3 h1 r hx hy hz, num_set3 h2 r hx hy hz⟩
theorem QIs.top {w : World} {a : Option Addr} {k c : Nat} {q : Rat} {t : Bool} (h : Num w (.slice a k c) q.num.natAbs) (ht : t = decide (q.num < 0)) : WholeIs w (.agg #[.bool t, .slice a k c]) q.num := ⟨a, k, c, by rw [ht], h⟩

theorem qsign_c (w : World) (v : Value) (q : Rat) (h : QIs w v q) :
    Calls Tryz.prog 121 #[v] w fun e w' => e = .returned (.int .i64 q.num.sign) ∧ G w w' := by
  obtain ⟨a, k, c, a', k', c', rfl, h1, h2⟩ := h
  obtain ⟨t, ht⟩ : ∃ t, t = decide (q.num < 0) := ⟨_, rfl⟩
  have HS : Hid (∀ w1, G w w1 → _) := fun w1 g => wsign_c w1 (.agg #[.bool t, .slice a k c]) q.num (QIs.top (h1.G g) ht)
  rw [← ht]
  generalize q.num.sign = z at *
  clear ht h1 h2
  go_enter Tryz.func121, Tryz.ntmps121
  go_wp2_with fail
  have g0 : G w (w.alloc (.cells #[.bool t, .slice a k c, .slice a' k' c'] 96)) := ((G.refl w).alloc _)
  have R0 : Hid (Rec (w.alloc (.cells #[.bool t, .slice a k c, .slice a' k' c'] 96)) (w.heap.size) [.bool t, .slice a k c, .slice a' k' c']) := by
    have h := Rec.new3 w (.bool t) (.slice a k c) (.slice a' k' c') 96
    exact h
  have hz0 : (w.alloc (.cells #[.bool t, .slice a k c, .slice a' k' c'] 96)).heap.size = w.heap.size + 1 := by simp
  generalize (w.alloc (.cells #[.bool t, .slice a k c, .slice a' k' c'] 96)) = w0 at *
  refine Calls.mono (P := Tryz.prog) (HS.out w0 g0) ?_
  rintro e w1 ⟨rfl, g1⟩
  go_wp2_with fail
  go_ret
  exact ⟨rfl, G.trans g0 g1⟩

theorem mkRat_one (z : Int) : ((z : Int) : Rat) = mkRat z 1 := (Rat.mk_eq_mkRat z 1 (by decide) (by simp)).symm ▸ rfl

/-- What is 1 over a fraction. -/
theorem inv_parts {y : Rat} (h : y ≠ 0) : y⁻¹ = mkRat (sgn (decide (y.num < 0)) y.den) y.num.natAbs ∧ Nat.gcd y.den y.num.natAbs = 1 ∧ 0 < y.num.natAbs := by
  have hn : y.num ≠ 0 := fun e => h (Rat.num_eq_zero.1 e)
  refine ⟨?_, by rw [Nat.gcd_comm]; exact y.reduced, by omega⟩
  rw [Rat.inv_def]
  rw [← Rat.divInt_ofNat, Rat.divInt_eq_divInt_iff hn (by omega)]
  unfold sgn
  by_cases h0 : y.num < 0
  · simp only [h0, decide_true, if_true]
    rw [show ((y.num.natAbs : Nat) : Int) = -y.num from by omega, Int.mul_neg, Int.neg_mul]
  · simp only [h0, decide_false, Bool.false_eq_true, if_false]
    rw [show ((y.num.natAbs : Nat) : Int) = y.num from by omega]
theorem inv_bound {y : Rat} {K : Nat} (h : y ≠ 0) (hb : QB y K) : QB y⁻¹ K := by
  obtain ⟨h1, h2, h3⟩ := inv_parts h
  have h4 := mk_cross h3 h1
  obtain ⟨e1, e2⟩ := rat_low h3 (by rw [abs_sgn]; exact h2) h4
  unfold QB
  rw [e1, e2, abs_sgn]
  exact ⟨hb.2, hb.1⟩

theorem sign_zero_iff {q : Rat} : (q.num.sign == 0) = decide (q = 0) := by
  rw [Bool.eq_iff_iff]
  simp [Int.sign_eq_zero_iff_zero, Rat.num_eq_zero]

set_option maxHeartbeats 1000000 in
theorem qquo_c (w : World) (v u : Value) (x y : Rat) (K : Nat) (hK : K ≤ 100000) (hK1 : 1 ≤ K) (hT : Tab w) (hx : QIs w v x) (hy : QIs w u y) (bx : QB x K) (by_ : QB y K) :
    Calls Tryz.prog 74 #[v, u] w (RetQE w (if y = 0 then 0 else x / y) (if y = 0 then 5 else 0)) := by
  have HSG : Hid (∀ w1, G w w1 → _) := fun w1 g => qsign_c w1 u y (hy.G g)
  have HB : Hid (∀ w1, G w w1 → _) := fun w1 g => bar_c w1 u y (hy.G g)
  have HX : Hid (QIs w v x) := hx
  obtain ⟨a, k, c, a', k', c', rfl, hx1, hx2⟩ := hx
  obtain ⟨b, j, e, b', j', e', rfl, hy1, hy2⟩ := hy
  by_cases h0 : y = 0
  · rw [if_pos h0, if_pos h0]
    have hz : (y.num.sign == 0) = true := by rw [sign_zero_iff, h0]; rfl
    generalize y.num.sign = z at *
    obtain ⟨s, hs⟩ : ∃ s, s = decide (x.num < 0) := ⟨_, rfl⟩
    obtain ⟨t, ht⟩ : ∃ t, t = decide (y.num < 0) := ⟨_, rfl⟩
    rw [← ht] at HSG
    rw [← hs, ← ht]
    clear hs ht hx1 hx2 hy1 hy2 bx by_ h0 HB HX hT
    go_enter Tryz.func74, Tryz.ntmps74
    go_wp2_with fail
    have g0 : G w (World.alloc (World.alloc (w.alloc (.cells #[.bool s, .slice a k c, .slice a' k' c'] 96)) (.cells #[.bool t, .slice b j e, .slice b' j' e'] 96)) (.cells #[.bool false, .slice none 0 0, .slice none 0 0] 96)) := ((((G.refl w).alloc _).alloc _).alloc _)
    have R0 : Hid (Rec (World.alloc (World.alloc (w.alloc (.cells #[.bool s, .slice a k c, .slice a' k' c'] 96)) (.cells #[.bool t, .slice b j e, .slice b' j' e'] 96)) (.cells #[.bool false, .slice none 0 0, .slice none 0 0] 96)) (w.heap.size) [.bool s, .slice a k c, .slice a' k' c']) := by
      have h := Rec.new3 w (.bool s) (.slice a k c) (.slice a' k' c') 96
      exact (Rec.G (Rec.G h ((G.refl (w.alloc (.cells #[.bool s, .slice a k c, .slice a' k' c'] 96))).alloc (.cells #[.bool t, .slice b j e, .slice b' j' e'] 96))) ((G.refl (World.alloc (w.alloc (.cells #[.bool s, .slice a k c, .slice a' k' c'] 96)) (.cells #[.bool t, .slice b j e, .slice b' j' e'] 96))).alloc (.cells #[.bool false, .slice none 0 0, .slice none 0 0] 96)))
    have R1 : Hid (Rec (World.alloc (World.alloc (w.alloc (.cells #[.bool s, .slice a k c, .slice a' k' c'] 96)) (.cells #[.bool t, .slice b j e, .slice b' j' e'] 96)) (.cells #[.bool false, .slice none 0 0, .slice none 0 0] 96)) (w.heap.size + 1) [.bool t, .slice b j e, .slice b' j' e']) := by
      have h := Rec.new3 (w.alloc (.cells #[.bool s, .slice a k c, .slice a' k' c'] 96)) (.bool t) (.slice b j e) (.slice b' j' e') 96
      rw [show (w.alloc (.cells #[.bool s, .slice a k c, .slice a' k' c'] 96)).heap.size = w.heap.size + 1 from by simp] at h
      exact (Rec.G h ((G.refl (World.alloc (w.alloc (.cells #[.bool s, .slice a k c, .slice a' k' c'] 96)) (.cells #[.bool t, .slice b j e, .slice b' j' e'] 96))).alloc (.cells #[.bool false, .slice none 0 0, .slice none 0 0] 96)))
    have R2 : Hid (Rec (World.alloc (World.alloc (w.alloc (.cells #[.bool s, .slice a k c, .slice a' k' c'] 96)) (.cells #[.bool t, .slice b j e, .slice b' j' e'] 96)) (.cells #[.bool false, .slice none 0 0, .slice none 0 0] 96)) (w.heap.size + 2) [.bool false, .slice none 0 0, .slice none 0 0]) := by
      have h := Rec.new3 (World.alloc (w.alloc (.cells #[.bool s, .slice a k c, .slice a' k' c'] 96)) (.cells #[.bool t, .slice b j e, .slice b' j' e'] 96)) (.bool false) (.slice none 0 0) (.slice none 0 0) 96
      rw [show (World.alloc (w.alloc (.cells #[.bool s, .slice a k c, .slice a' k' c'] 96)) (.cells #[.bool t, .slice b j e, .slice b' j' e'] 96)).heap.size = w.heap.size + 2 from by simp] at h
      exact h
    have hz0 : (World.alloc (World.alloc (w.alloc (.cells #[.bool s, .slice a k c, .slice a' k' c'] 96)) (.cells #[.bool t, .slice b j e, .slice b' j' e'] 96)) (.cells #[.bool false, .slice none 0 0, .slice none 0 0] 96)).heap.size = w.heap.size + 3 := by simp
    generalize (World.alloc (World.alloc (w.alloc (.cells #[.bool s, .slice a k c, .slice a' k' c'] 96)) (.cells #[.bool t, .slice b j e, .slice b' j' e'] 96)) (.cells #[.bool false, .slice none 0 0, .slice none 0 0] 96)) = w0 at *
    refine Calls.mono (P := Tryz.prog) (HSG.out w0 g0) ?_
    rintro e w1 ⟨rfl, g1⟩
    clear HSG
    have hS := Rec.f3 (Rec.G R2.out ((g1)))
    have hS_0 := hS.1
    have hS_1 := hS.2.1
    have hS_2 := hS.2.2.1
    have hS_3 := hS.2.2.2.1
    have hS_4 := hS.2.2.2.2.1
    have hS_5 := hS.2.2.2.2.2
    clear hS
    go_wp2_with fail
    have hT : Hid (Rec (World.setCell (World.setCell (World.setCell w1 ⟨w.heap.size + 2, 0, none⟩ (.bool false)) ⟨w.heap.size + 2, 1, none⟩ (.slice none 0 0)) ⟨w.heap.size + 2, 2, none⟩ (.slice none 0 0)) (w.heap.size + 2) [.bool false, .slice none 0 0, .slice none 0 0]) := Rec.set3 (Rec.G R2.out (g1))
    have g9 := Rec.g3 (b := w.heap.size + 2) (u := .bool false) (v := .slice none 0 0) (x := .slice none 0 0) (G.trans g0 g1) (by omega)
    generalize (World.setCell (World.setCell (World.setCell w1 ⟨w.heap.size + 2, 0, none⟩ (.bool false)) ⟨w.heap.size + 2, 1, none⟩ (.slice none 0 0)) ⟨w.heap.size + 2, 2, none⟩ (.slice none 0 0)) = w9 at *
    have hF := Rec.f3 (Rec.G hT.out ((G.refl _)))
    have hF_0 := hF.1
    have hF_1 := hF.2.1
    have hF_2 := hF.2.2.1
    have hF_3 := hF.2.2.2.1
    have hF_4 := hF.2.2.2.2.1
    have hF_5 := hF.2.2.2.2.2
    clear hF
    refine bodyPost_ret (v := .tuple #[.agg #[.bool false, .slice none 0 0, .slice none 0 0], .int .i64 5]) (by simp [results, Tryz.results74, go_sem, *]) rfl ?_
    exact ⟨_, rfl, g9, q_zero w9⟩
  · rw [if_neg h0, if_neg h0]
    obtain ⟨i1, i2, i3⟩ := inv_parts h0
    have ib := inv_bound h0 by_
    have hz : (y.num.sign == 0) = false := by rw [sign_zero_iff, decide_eq_false h0]
    have hbn := by_.1
    obtain ⟨s, hs⟩ : ∃ s, s = decide (x.num < 0) := ⟨_, rfl⟩
    obtain ⟨t, ht⟩ : ∃ t, t = decide (y.num < 0) := ⟨_, rfl⟩
    have HS : Hid (∀ w1 v1, Num w1 v1 y.den → _) := fun w1 v1 h1 => signed_c w1 v1 t y.den h1
    have HF : Hid (∀ w1 v1, G w w1 → WholeIs w1 v1 (sgn t y.den) → _) := fun w1 v1 g h1 => fraction_c w1 v1 (.slice b j e) _ y.num.natAbs K y⁻¹ h1 (hy1.G g) i3 hbn (fun _ => by rw [abs_sgn]; exact i2) (by rw [ht]; exact i1)
    have HM : Hid (∀ w1 v1, G w w1 → QIs w1 v1 y⁻¹ → Calls Tryz.prog 56 #[.agg #[.bool s, .slice a k c, .slice a' k' c'], v1] w1 (RetQ w1 (x / y))) := fun w1 v1 g h1 => by
      rw [Rat.div_def]
      have hX := HX.out
      rw [← hs] at hX
      exact qmul_c w1 _ v1 x y⁻¹ K hK hK1 (hT.G g) (hX.G g) h1 bx ib
    rw [← ht] at HSG HB
    rw [← hs, ← ht]
    generalize y.num.sign = z at *
    obtain ⟨d, hd⟩ : ∃ d, d = y.den := ⟨_, rfl⟩
    rw [← hd] at HB HS HF
    generalize sgn t d = yt at *
    generalize y.num.natAbs = yn at *
    obtain ⟨yi, hyi⟩ : ∃ yi, yi = y⁻¹ := ⟨_, rfl⟩
    rw [← hyi] at HF HM
    generalize x / y = q at *
    clear hd hs ht hyi i1 i2 i3 ib hbn hx1 hx2 hy1 hy2 bx by_ h0 HX hT
    go_enter Tryz.func74, Tryz.ntmps74
    go_wp2_with fail
    have g0 : G w (World.alloc (World.alloc (w.alloc (.cells #[.bool s, .slice a k c, .slice a' k' c'] 96)) (.cells #[.bool t, .slice b j e, .slice b' j' e'] 96)) (.cells #[.bool false, .slice none 0 0, .slice none 0 0] 96)) := ((((G.refl w).alloc _).alloc _).alloc _)
    have R0 : Hid (Rec (World.alloc (World.alloc (w.alloc (.cells #[.bool s, .slice a k c, .slice a' k' c'] 96)) (.cells #[.bool t, .slice b j e, .slice b' j' e'] 96)) (.cells #[.bool false, .slice none 0 0, .slice none 0 0] 96)) (w.heap.size) [.bool s, .slice a k c, .slice a' k' c']) := by
      have h := Rec.new3 w (.bool s) (.slice a k c) (.slice a' k' c') 96
      exact (Rec.G (Rec.G h ((G.refl (w.alloc (.cells #[.bool s, .slice a k c, .slice a' k' c'] 96))).alloc (.cells #[.bool t, .slice b j e, .slice b' j' e'] 96))) ((G.refl (World.alloc (w.alloc (.cells #[.bool s, .slice a k c, .slice a' k' c'] 96)) (.cells #[.bool t, .slice b j e, .slice b' j' e'] 96))).alloc (.cells #[.bool false, .slice none 0 0, .slice none 0 0] 96)))
    have R1 : Hid (Rec (World.alloc (World.alloc (w.alloc (.cells #[.bool s, .slice a k c, .slice a' k' c'] 96)) (.cells #[.bool t, .slice b j e, .slice b' j' e'] 96)) (.cells #[.bool false, .slice none 0 0, .slice none 0 0] 96)) (w.heap.size + 1) [.bool t, .slice b j e, .slice b' j' e']) := by
      have h := Rec.new3 (w.alloc (.cells #[.bool s, .slice a k c, .slice a' k' c'] 96)) (.bool t) (.slice b j e) (.slice b' j' e') 96
      rw [show (w.alloc (.cells #[.bool s, .slice a k c, .slice a' k' c'] 96)).heap.size = w.heap.size + 1 from by simp] at h
      exact (Rec.G h ((G.refl (World.alloc (w.alloc (.cells #[.bool s, .slice a k c, .slice a' k' c'] 96)) (.cells #[.bool t, .slice b j e, .slice b' j' e'] 96))).alloc (.cells #[.bool false, .slice none 0 0, .slice none 0 0] 96)))
    have R2 : Hid (Rec (World.alloc (World.alloc (w.alloc (.cells #[.bool s, .slice a k c, .slice a' k' c'] 96)) (.cells #[.bool t, .slice b j e, .slice b' j' e'] 96)) (.cells #[.bool false, .slice none 0 0, .slice none 0 0] 96)) (w.heap.size + 2) [.bool false, .slice none 0 0, .slice none 0 0]) := by
      have h := Rec.new3 (World.alloc (w.alloc (.cells #[.bool s, .slice a k c, .slice a' k' c'] 96)) (.cells #[.bool t, .slice b j e, .slice b' j' e'] 96)) (.bool false) (.slice none 0 0) (.slice none 0 0) 96
      rw [show (World.alloc (w.alloc (.cells #[.bool s, .slice a k c, .slice a' k' c'] 96)) (.cells #[.bool t, .slice b j e, .slice b' j' e'] 96)).heap.size = w.heap.size + 2 from by simp] at h
      exact h
    have hz0 : (World.alloc (World.alloc (w.alloc (.cells #[.bool s, .slice a k c, .slice a' k' c'] 96)) (.cells #[.bool t, .slice b j e, .slice b' j' e'] 96)) (.cells #[.bool false, .slice none 0 0, .slice none 0 0] 96)).heap.size = w.heap.size + 3 := by simp
    generalize (World.alloc (World.alloc (w.alloc (.cells #[.bool s, .slice a k c, .slice a' k' c'] 96)) (.cells #[.bool t, .slice b j e, .slice b' j' e'] 96)) (.cells #[.bool false, .slice none 0 0, .slice none 0 0] 96)) = w0 at *
    refine Calls.mono (P := Tryz.prog) (HSG.out w0 g0) ?_
    rintro e w1 ⟨rfl, g1⟩
    clear HSG
    have g01 := G.trans g0 g1
    have S0 : Hid (Rec _ _ _) := Rec.G R0.out (g1)
    have S1 : Hid (Rec _ _ _) := Rec.G R1.out (g1)
    have S2 : Hid (Rec _ _ _) := Rec.G R2.out (g1)
    clear R0 R1 R2 g0 g1
    go_wp2_with fail
    refine region_each 11 1 #[true, true, true, true, true, true, true, true, true, true, true, false] [.is (.pointer (some ⟨w.heap.size + 1, 0, none⟩)), .is (.pointer (some ⟨w.heap.size + 1, 0, none⟩)), .is (.bool t), .is (.agg #[.bool t, .slice b j e, .slice b' j' e']), .any (fun v w' => Num w' v (d)), .any (fun v w' => WholeIs w' v (yt)), .is (.pointer (some ⟨w.heap.size + 1, 0, none⟩)), .is (.pointer (some ⟨w.heap.size + 1, 1, none⟩)), .is (.slice b j e), .any (fun v w' => QIs w' v (yi)), .any (fun v w' => NewRec w1 w' v ([.bool false, .slice none 0 0, .slice none 0 0]))] [some 11, some 12, some 13, some 14, some 15, some 16, some 17, some 18, some 19, some 20, some 6] (by kernel_rfl) (by kernel_rfl) rfl (by kernel_rfl) (by repeat (first | exact trivial | refine ⟨fun _ _ _ g h => by first | exact h.G g | exact fun w3 g3 => h w3 (G.trans g g3), ?_⟩)) (by kernel_rfl) (by kernel_rfl) ?_
    refine Letters.is ?_
    refine Letters.is ?_
    refine Letters.is ?_
    refine Letters.is ?_
    refine Letters.any fun v4 => ?_
    refine Letters.any fun v5 => ?_
    refine Letters.is ?_
    refine Letters.is ?_
    refine Letters.is ?_
    refine Letters.any fun v9 => ?_
    refine Letters.any fun v10 => ?_
    refine Letters.nil ?_
    intro A hA
    simp only [fillD, Act.put, List.setIfInBounds_toArray, List.set_cons_zero, List.set_cons_succ] at hA
    subst hA
    refine ⟨?_, ?_⟩
    · skip
      refine Eaches.cons rfl ?_ ?_
      · intro W hW hD K hK
        clear hD
        go_simp
        exact hK.out _ _ ⟨_, by first | (simp only [Act.put, List.setIfInBounds_toArray, List.set_cons_zero, List.set_cons_succ]; done) | simp only [Act.put, List.setIfInBounds_toArray, List.set_cons_zero, List.set_cons_succ, *], G.refl _, rfl⟩
      refine Eaches.cons rfl ?_ ?_
      · intro W hW hD K hK
        clear hD
        go_simp
        exact hK.out _ _ ⟨_, by first | (simp only [Act.put, List.setIfInBounds_toArray, List.set_cons_zero, List.set_cons_succ]; done) | simp only [Act.put, List.setIfInBounds_toArray, List.set_cons_zero, List.set_cons_succ, *], G.refl _, rfl⟩
      refine Eaches.cons rfl ?_ ?_
      · intro W hW hD K hK
        clear hD
        have hS1 := Rec.f3 (Rec.G S1.out hW)
        have hS1_0 := hS1.1
        have hS1_1 := hS1.2.1
        have hS1_2 := hS1.2.2.1
        clear hS1
        go_simp
        exact hK.out _ _ ⟨_, by first | (simp only [Act.put, List.setIfInBounds_toArray, List.set_cons_zero, List.set_cons_succ]; done) | simp only [Act.put, List.setIfInBounds_toArray, List.set_cons_zero, List.set_cons_succ, *], G.refl _, rfl⟩
      refine Eaches.cons rfl ?_ ?_
      · intro W hW hD K hK
        clear hD
        have hS1 := Rec.f3 (Rec.G S1.out hW)
        have hS1_0 := hS1.1
        have hS1_1 := hS1.2.1
        have hS1_2 := hS1.2.2.1
        clear hS1
        go_simp
        exact hK.out _ _ ⟨_, by first | (simp only [Act.put, List.setIfInBounds_toArray, List.set_cons_zero, List.set_cons_succ]; done) | simp only [Act.put, List.setIfInBounds_toArray, List.set_cons_zero, List.set_cons_succ, *], G.refl _, rfl⟩
      refine Eaches.cons rfl ?_ ?_
      · intro W hW hD K hK
        clear hD
        go_simp
        go_wp2_with (go_at_call 97; refine Calls.mono (P := Tryz.prog) (HB.out W (G.trans g01 hW)) ?_; intro e w9 hs; obtain ⟨u9, rfl, g9, hn9⟩ := hs)
        exact hK.out _ _ ⟨_, by first | (simp only [Act.put, List.setIfInBounds_toArray, List.set_cons_zero, List.set_cons_succ]; done) | simp only [Act.put, List.setIfInBounds_toArray, List.set_cons_zero, List.set_cons_succ, *], g9, hn9⟩
      refine Eaches.cons rfl ?_ ?_
      · intro W hW hD K hK
        have h4 := Deps.get (v := v4) 4 hD rfl rfl (by kernel_rfl)
        clear hD
        go_simp
        go_wp2_with (go_at_call 101; refine Calls.mono (P := Tryz.prog) (HS.out W v4 h4) ?_; intro e w9 hs; obtain ⟨u9, rfl, g9, hn9⟩ := hs)
        exact hK.out _ _ ⟨_, by first | (simp only [Act.put, List.setIfInBounds_toArray, List.set_cons_zero, List.set_cons_succ]; done) | simp only [Act.put, List.setIfInBounds_toArray, List.set_cons_zero, List.set_cons_succ, *], g9, hn9⟩
      refine Eaches.cons rfl ?_ ?_
      · intro W hW hD K hK
        clear hD
        go_simp
        exact hK.out _ _ ⟨_, by first | (simp only [Act.put, List.setIfInBounds_toArray, List.set_cons_zero, List.set_cons_succ]; done) | simp only [Act.put, List.setIfInBounds_toArray, List.set_cons_zero, List.set_cons_succ, *], G.refl _, rfl⟩
      refine Eaches.cons rfl ?_ ?_
      · intro W hW hD K hK
        clear hD
        go_simp
        exact hK.out _ _ ⟨_, by first | (simp only [Act.put, List.setIfInBounds_toArray, List.set_cons_zero, List.set_cons_succ]; done) | simp only [Act.put, List.setIfInBounds_toArray, List.set_cons_zero, List.set_cons_succ, *], G.refl _, rfl⟩
      refine Eaches.cons rfl ?_ ?_
      · intro W hW hD K hK
        clear hD
        have hS1 := Rec.f3 (Rec.G S1.out hW)
        have hS1_0 := hS1.1
        have hS1_1 := hS1.2.1
        have hS1_2 := hS1.2.2.1
        clear hS1
        go_simp
        exact hK.out _ _ ⟨_, by first | (simp only [Act.put, List.setIfInBounds_toArray, List.set_cons_zero, List.set_cons_succ]; done) | simp only [Act.put, List.setIfInBounds_toArray, List.set_cons_zero, List.set_cons_succ, *], G.refl _, rfl⟩
      refine Eaches.cons rfl ?_ ?_
      · intro W hW hD K hK
        have h5 := Deps.get (v := v5) 5 hD rfl rfl (by kernel_rfl)
        clear hD
        go_simp
        go_wp2_with (go_at_call 100; refine Calls.mono (P := Tryz.prog) (HF.out W v5 (G.trans g01 hW) h5) ?_; intro e w9 hs; obtain ⟨u9, rfl, g9, hn9⟩ := hs)
        exact hK.out _ _ ⟨_, by first | (simp only [Act.put, List.setIfInBounds_toArray, List.set_cons_zero, List.set_cons_succ]; done) | simp only [Act.put, List.setIfInBounds_toArray, List.set_cons_zero, List.set_cons_succ, *], g9, hn9⟩
      refine Eaches.cons rfl ?_ ?_
      · intro W hW hD K hK
        clear hD
        go_simp
        exact hK.out _ _ ⟨_, by first | (simp only [Act.put, List.setIfInBounds_toArray, List.set_cons_zero, List.set_cons_succ]; done) | simp only [Act.put, List.setIfInBounds_toArray, List.set_cons_zero, List.set_cons_succ, *], (G.refl _).alloc _, _, rfl, hW.size, Rec.new3 _ _ _ _ _⟩
      exact Eaches.nil
    intro w2 g2 hH
    have h9 := Helds.get (v := v9) 9 hH rfl rfl
    have h10 := Helds.get (v := v10) 10 hH rfl rfl
    clear hH
    clear HS HF HB
    obtain ⟨nb, rfl, hnb, hr10⟩ := h10
    have N0 : Hid (Rec w2 nb [.bool false, .slice none 0 0, .slice none 0 0]) := hr10
    obtain ⟨a8, k8, c8, a9, k9, c9, rfl, hm8, hm9⟩ := h9
    obtain ⟨t9, ht9⟩ : ∃ t, t = decide (yi.num < 0) := ⟨_, rfl⟩
    have hQ : QIs w2 (.agg #[.bool t9, .slice a8 k8 c8, .slice a9 k9 c9]) yi := ⟨a8, k8, c8, a9, k9, c9, by rw [ht9], hm8, hm9⟩
    have HQ : Hid _ := hQ.set3 (u1 := .bool t9) (u2 := .slice a8 k8 c8) (u3 := .slice a9 k9 c9) N0.out trivial trivial trivial
    rw [← ht9]
    clear hm8 hm9 ht9 hr10 hQ
    have hS := Rec.f3 (Rec.G N0.out ((G.refl _)))
    have hS_0 := hS.1
    have hS_1 := hS.2.1
    have hS_2 := hS.2.2.1
    have hS_3 := hS.2.2.2.1
    have hS_4 := hS.2.2.2.2.1
    have hS_5 := hS.2.2.2.2.2
    clear hS
    refine wpAny_ready (rs := [11]) (by kernel_rfl) (by simp) ?_
    refine AllReady.cons rfl (fun K hK => ?_) AllReady.nil
    go_simp
    refine hK _ _ ?_
    clear hK K hS_0 hS_1 hS_2 hS_3 hS_4 hS_5
    refine wpAny_done (by kernel_rfl) ?_ _
    have N1 : Hid (Rec _ nb [.bool t9, .slice a8 k8 c8, .slice a9 k9 c9]) := Rec.set3 N0.out
    have g3 := Rec.g3 (b := nb) (u := .bool t9) (v := .slice a8 k8 c8) (x := .slice a9 k9 c9) g2 hnb
    generalize (((w2.setCell ⟨nb, 0, none⟩ (.bool t9)).setCell ⟨nb, 1, none⟩ (.slice a8 k8 c8)).setCell ⟨nb, 2, none⟩ (.slice a9 k9 c9)) = w3 at *
    have g03 := G.trans g01 g3
    have T0 : Hid (Rec _ _ _) := Rec.G S0.out (g3)
    have T2 : Hid (Rec _ _ _) := Rec.G S2.out (g3)
    have HM3 : Hid _ := HM.out w3 _ g03 HQ.out
    clear HM HQ S0 S1 S2 N0 g2 hnb g01 g3
    have hST0 := Rec.f3 (Rec.G T0.out (G.refl _))
    have hST0_0 := hST0.1
    have hST0_1 := hST0.2.1
    have hST0_2 := hST0.2.2.1
    have hST0_3 := hST0.2.2.2.1
    have hST0_4 := hST0.2.2.2.2.1
    have hST0_5 := hST0.2.2.2.2.2
    clear hST0
    have hSN1 := Rec.f3 (Rec.G N1.out (G.refl _))
    have hSN1_0 := hSN1.1
    have hSN1_1 := hSN1.2.1
    have hSN1_2 := hSN1.2.2.1
    have hSN1_3 := hSN1.2.2.2.1
    have hSN1_4 := hSN1.2.2.2.2.1
    have hSN1_5 := hSN1.2.2.2.2.2
    clear hSN1
    go_wp2_with fail
    refine Calls.mono (P := Tryz.prog) HM3.out ?_
    intro e4 w4 hs
    obtain ⟨v21, rfl, g4, h21⟩ := hs
    clear HM3 hST0_0 hST0_1 hST0_2 hST0_3 hST0_4 hST0_5 hSN1_0 hSN1_1 hSN1_2 hSN1_3 hSN1_4 hSN1_5
    obtain ⟨a8, k8, c8, a9, k9, c9, rfl, hm8, hm9⟩ := h21
    have HN8 : Hid (Num w4 (.slice a8 k8 c8) (q).num.natAbs) := hm8
    have HN9 : Hid (Num w4 (.slice a9 k9 c9) (lowOf (q).den)) := hm9
    obtain ⟨t9, ht9⟩ : ∃ t, t = decide ((q).num < 0) := ⟨_, rfl⟩
    rw [← ht9]
    have HT9 : Hid (t9 = decide ((q).num < 0)) := ht9
    clear hm8 hm9 ht9
    have hS := Rec.f3 (Rec.G T2.out ((g4)))
    have hS_0 := hS.1
    have hS_1 := hS.2.1
    have hS_2 := hS.2.2.1
    have hS_3 := hS.2.2.2.1
    have hS_4 := hS.2.2.2.2.1
    have hS_5 := hS.2.2.2.2.2
    clear hS
    have HN8' : Num _ _ _ := num_set3 (u1 := .bool t9) (u2 := .slice a8 k8 c8) (u3 := .slice a9 k9 c9) HN8.out (Rec.G T2.out (g4)) trivial trivial trivial
    have HN9' : Num _ _ _ := num_set3 (u1 := .bool t9) (u2 := .slice a8 k8 c8) (u3 := .slice a9 k9 c9) HN9.out (Rec.G T2.out (g4)) trivial trivial trivial
    go_wp2_with fail
    have hT : Hid (Rec (World.setCell (World.setCell (World.setCell w4 ⟨w.heap.size + 2, 0, none⟩ (.bool t9)) ⟨w.heap.size + 2, 1, none⟩ (.slice a8 k8 c8)) ⟨w.heap.size + 2, 2, none⟩ (.slice a9 k9 c9)) (w.heap.size + 2) [.bool t9, .slice a8 k8 c8, .slice a9 k9 c9]) := Rec.set3 (Rec.G T2.out (g4))
    have g9 := Rec.g3 (b := w.heap.size + 2) (u := .bool t9) (v := .slice a8 k8 c8) (x := .slice a9 k9 c9) (G.trans g03 g4) (by omega)
    generalize (World.setCell (World.setCell (World.setCell w4 ⟨w.heap.size + 2, 0, none⟩ (.bool t9)) ⟨w.heap.size + 2, 1, none⟩ (.slice a8 k8 c8)) ⟨w.heap.size + 2, 2, none⟩ (.slice a9 k9 c9)) = w9 at *
    have hF := Rec.f3 (Rec.G hT.out ((G.refl _)))
    have hF_0 := hF.1
    have hF_1 := hF.2.1
    have hF_2 := hF.2.2.1
    have hF_3 := hF.2.2.2.1
    have hF_4 := hF.2.2.2.2.1
    have hF_5 := hF.2.2.2.2.2
    clear hF
    refine bodyPost_ret (v := .tuple #[.agg #[.bool t9, .slice a8 k8 c8, .slice a9 k9 c9], .int .i64 0]) (by simp [results, Tryz.results74, go_sem, *]) rfl ?_
    exact ⟨_, rfl, g9, a8, k8, c8, a9, k9, c9, by rw [← HT9.out], HN8', HN9'⟩
end Go.Proofs.YtielcpkcfpbanacGreatDoor.EN
