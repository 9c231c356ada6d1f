/- What is proved here: contracts of package exact: comparison, powers of two, sums of fractions, over this seat's translation.
What is proved here: contracts of package exact: sums of fractions, over this seat's translation.
What is proved here: contracts of package exact: Add, Sub, Floor, Square, over this seat's translation.
What is proved here: contracts of package exact: a fraction's front, over this seat's translation. -/
import Derived.Test.YtahfkkkfpcdjaabGreatDoorC31
import Derived.Test.YtahfkkkfpcdjaabGreatDoorC15
namespace Go.Proofs.YtahfkkkfpcdjaabGreatDoor.EN
open Go.ChangeShapes Go.WideShapes Go.ChangeAt Go.RowKit

theorem qb_int {z : Int} (h1 : -9223372036854775808 ≤ z) (h2 : z < 9223372036854775808) : QB (z : Rat) 1 := ⟨by show z.natAbs < _; omega, by show 1 < _; omega⟩

theorem QIs.top' {w : World} {a : Option Addr} {k c : Nat} {z : Int} {t : Bool} (h : Num w (.slice a k c) z.natAbs) (ht : t = decide (z < 0)) : WholeIs w (.agg #[.bool t, .slice a k c]) z := ⟨a, k, c, by rw [ht], h⟩

theorem sgn_scale (t : Bool) (n k : Nat) : sgn t (n * k) = sgn t n * (k : Int) := by unfold sgn; cases t <;> simp [Int.neg_mul]

theorem over_int_c (w : World) (a b : Int) (hT : Tab w) (h1 : -9223372036854775808 ≤ a) (h2 : a < 9223372036854775808) (h3 : -9223372036854775808 ≤ b) (h4 : b < 9223372036854775808) :
    Calls Tryz.prog 49 #[.int .i64 a, .int .i64 b] w (RetQE w (if b = 0 then 0 else (a : Rat) / b) (if b = 0 then 5 else 0)) := by
  have HA : Hid (∀ w1, _) := fun w1 => int_c w1 a h1 h2
  have HB : Hid (∀ w1, _) := fun w1 => int_c w1 b h3 h4
  have HQ : Hid (∀ w1 v1 v2, G w w1 → QIs w1 v1 (a : Rat) → QIs w1 v2 (b : Rat) → Calls Tryz.prog 16 #[v1, v2] w1 (RetQE w1 (if b = 0 then 0 else (a : Rat) / b) (if b = 0 then 5 else 0))) := fun w1 v1 v2 g k1 k2 => by
    have h := qquo_c w1 v1 v2 a b 1 (by omega) (by omega) (hT.G g) k1 k2 (qb_int h1 h2) (qb_int h3 h4)
    have e : ((b : Rat) = 0) = (b = 0) := by
      apply propext
      constructor
      · intro h; have := congrArg Rat.num h; exact this
      · intro h; rw [h]; rfl
    simpa only [e] using h
  generalize (if b = 0 then (5 : Int) else 0) = cd at *
  generalize (if b = 0 then 0 else (a : Rat) / b) = q at *
  clear h1 h2 h3 h4 hT
  go_enter Tryz.func49, Tryz.ntmps49
  go_wp2_with fail
  have g0 : G w (w.alloc (.cells #[.bool false, .slice none 0 0, .slice none 0 0] 28)) := ((G.refl w).alloc _)
  have R0 : Hid (Rec (w.alloc (.cells #[.bool false, .slice none 0 0, .slice none 0 0] 28)) (w.heap.size) [.bool false, .slice none 0 0, .slice none 0 0]) := by
    have h := Rec.new3 w (.bool false) (.slice none 0 0) (.slice none 0 0) 28
    exact h
  have hz0 : (w.alloc (.cells #[.bool false, .slice none 0 0, .slice none 0 0] 28)).heap.size = w.heap.size + 1 := by simp
  generalize (w.alloc (.cells #[.bool false, .slice none 0 0, .slice none 0 0] 28)) = w0 at *
  refine Calls.mono (P := Tryz.prog) (HA.out w0) ?_
  intro e w1 hs
  obtain ⟨v1, rfl, g1, k1⟩ := hs
  have K1 : Hid (QIs w1 v1 (a : Rat)) := k1
  clear k1
  go_wp2_with fail
  refine Calls.mono (P := Tryz.prog) (HB.out w1) ?_
  intro e w2 hs
  obtain ⟨v2, rfl, g2, k2⟩ := hs
  have g02 := G.trans g0 (G.trans g1 g2)
  have HQ2 : Hid _ := HQ.out w2 v1 v2 g02 (K1.out.G g2) k2
  clear k2 K1 HA HB HQ
  go_wp2_with fail
  refine Calls.mono (P := Tryz.prog) HQ2.out ?_
  intro e w3 hs
  obtain ⟨v3, rfl, g3, k3⟩ := hs
  clear HQ2
  obtain ⟨a8, k8, c8, a9, k9, c9, rfl, hm8, hm9⟩ := k3
  have HN8 : Hid (Num w3 (.slice a8 k8 c8) (q).num.natAbs) := hm8
  have HN9 : Hid (Num w3 (.slice a9 k9 c9) (lowOf (q).den)) := hm9
  obtain ⟨t9, ht9⟩ : ∃ t, t = decide ((q).num < 0) := ⟨_, rfl⟩
  rw [← ht9]
  have HT9 : Hid (t9 = decide ((q).num < 0)) := ht9
  clear hm8 hm9 ht9
  have hS := Rec.f3 (Rec.G R0.out ((G.trans g1 (G.trans g2 g3))))
  have hS_0 := hS.1
  have hS_1 := hS.2.1
  have hS_2 := hS.2.2.1
  have hS_3 := hS.2.2.2.1
  have hS_4 := hS.2.2.2.2.1
  have hS_5 := hS.2.2.2.2.2
  clear hS
  have HN8' : Num _ _ _ := num_set3 (u1 := .bool t9) (u2 := .slice a8 k8 c8) (u3 := .slice a9 k9 c9) HN8.out (Rec.G R0.out (G.trans g1 (G.trans g2 g3))) trivial trivial trivial
  have HN9' : Num _ _ _ := num_set3 (u1 := .bool t9) (u2 := .slice a8 k8 c8) (u3 := .slice a9 k9 c9) HN9.out (Rec.G R0.out (G.trans g1 (G.trans g2 g3))) trivial trivial trivial
  go_wp2_with fail
  have hT : Hid (Rec (World.setCell (World.setCell (World.setCell w3 ⟨w.heap.size, 0, none⟩ (.bool t9)) ⟨w.heap.size, 1, none⟩ (.slice a8 k8 c8)) ⟨w.heap.size, 2, none⟩ (.slice a9 k9 c9)) (w.heap.size) [.bool t9, .slice a8 k8 c8, .slice a9 k9 c9]) := Rec.set3 (Rec.G R0.out (G.trans g1 (G.trans g2 g3)))
  have g9 := Rec.g3 (b := w.heap.size) (u := .bool t9) (v := .slice a8 k8 c8) (x := .slice a9 k9 c9) (G.trans g02 g3) (by omega)
  generalize (World.setCell (World.setCell (World.setCell w3 ⟨w.heap.size, 0, none⟩ (.bool t9)) ⟨w.heap.size, 1, none⟩ (.slice a8 k8 c8)) ⟨w.heap.size, 2, none⟩ (.slice a9 k9 c9)) = w9 at *
  have hF := Rec.f3 (Rec.G hT.out ((G.refl _)))
  have hF_0 := hF.1
  have hF_1 := hF.2.1
  have hF_2 := hF.2.2.1
  have hF_3 := hF.2.2.2.1
  have hF_4 := hF.2.2.2.2.1
  have hF_5 := hF.2.2.2.2.2
  clear hF
  refine bodyPost_ret (v := .tuple #[.agg #[.bool t9, .slice a8 k8 c8, .slice a9 k9 c9], .int .i64 cd]) (by simp [results, Tryz.results49, go_sem, *]) rfl ?_
  exact ⟨_, rfl, g9, a8, k8, c8, a9, k9, c9, by rw [← HT9.out], HN8', HN9'⟩

set_option maxHeartbeats 1000000 in
theorem qcmp_c (w : World) (v u : Value) (x y : Rat) (K : Nat) (hK : K ≤ 100000) (hx : QIs w v x) (hy : QIs w u y) (bx : QB x K) (by_ : QB y K) :
    Calls Tryz.prog 31 #[v, u] w fun e w' => e = .returned (.int .i64 (x.num * y.den - y.num * x.den).sign) ∧ G w w' := by
  have HBX : Hid (∀ w1, G w w1 → _) := fun w1 g => bar_c w1 v x (hx.G g)
  have HBY : Hid (∀ w1, G w w1 → _) := fun w1 g => bar_c w1 u y (hy.G g)
  obtain ⟨a, k, c, a', k', c', rfl, hx1, hx2⟩ := hx
  obtain ⟨b, j, e, b', j', e', rfl, hy1, hy2⟩ := hy
  obtain ⟨s, hs⟩ : ∃ s, s = decide (x.num < 0) := ⟨_, rfl⟩
  obtain ⟨t, ht⟩ : ∃ t, t = decide (y.num < 0) := ⟨_, rfl⟩
  have hsx : sgn s x.num.natAbs = x.num := by rw [hs]; exact sgn_abs _
  have hsy : sgn t y.num.natAbs = y.num := by rw [ht]; exact sgn_abs _
  have HT1 : Hid (∀ w1 v1, G w w1 → Num w1 v1 y.den → Calls Tryz.prog 96 #[.agg #[.bool s, .slice a k c], v1] w1 (RetWhole w1 (x.num * y.den))) := fun w1 v1 g h => by
    have h := wtimes_c w1 (.agg #[.bool s, .slice a k c]) v1 s _ _ K (by omega) ⟨a, k, c, rfl, hx1.G g⟩ h bx.1 by_.2
    rw [hsx] at h; exact h
  have HT2 : Hid (∀ w1 v1, G w w1 → Num w1 v1 x.den → Calls Tryz.prog 96 #[.agg #[.bool t, .slice b j e], v1] w1 (RetWhole w1 (y.num * x.den))) := fun w1 v1 g h => by
    have h := wtimes_c w1 (.agg #[.bool t, .slice b j e]) v1 t _ _ K (by omega) ⟨b, j, e, rfl, hy1.G g⟩ h by_.1 bx.2
    rw [hsy] at h; exact h
  have q1 : (x.num * y.den).natAbs < 2 ^ (64 * (K + K)) := by rw [Int.natAbs_mul]; exact lt_mul_pow bx.1 by_.2
  have q2 : (y.num * x.den).natAbs < 2 ^ (64 * (K + K)) := by rw [Int.natAbs_mul]; exact lt_mul_pow by_.1 bx.2
  rw [← hs] at HBX
  rw [← ht] at HBY
  rw [← hs, ← ht]
  obtain ⟨p, hp⟩ : ∃ p, p = x.den := ⟨_, rfl⟩
  obtain ⟨r, hr⟩ : ∃ r, r = y.den := ⟨_, rfl⟩
  rw [← hp] at HBX HT2 q2 ⊢
  rw [← hr] at HBY HT1 q1 ⊢
  generalize x.num * (r : Int) = A at *
  generalize y.num * (p : Int) = B at *
  have HM : Hid (∀ w1 v1 v2, WholeIs w1 v1 A → WholeIs w1 v2 B → Calls Tryz.prog 97 #[v1, v2] w1 (RetWhole w1 (A - B))) := fun w1 v1 v2 h1 h2 => by
    have h := wminus_c w1 v1 v2 _ _ _ _ (K + K) (by omega) h1 h2 q1 q2
    rw [sgn_abs, sgn_abs] at h; exact h
  have HS : Hid (∀ w1 v1, WholeIs w1 v1 (A - B) → _) := fun w1 v1 h => wsign_c w1 v1 (A - B) h
  generalize A - B = z at *
  generalize z.sign = sz at *
  clear hp hr q1 q2 hsx hsy hs ht bx by_ hx1 hx2 hy1 hy2
  go_enter Tryz.func31, Tryz.ntmps31
  go_wp2_with fail
  have g0 : G w (World.alloc (w.alloc (.cells #[.bool s, .slice a k c, .slice a' k' c'] 28)) (.cells #[.bool t, .slice b j e, .slice b' j' e'] 28)) := (((G.refl w).alloc _).alloc _)
  have R0 : Hid (Rec (World.alloc (w.alloc (.cells #[.bool s, .slice a k c, .slice a' k' c'] 28)) (.cells #[.bool t, .slice b j e, .slice b' j' e'] 28)) (w.heap.size) [.bool s, .slice a k c, .slice a' k' c']) := by
    have h := Rec.new3 w (.bool s) (.slice a k c) (.slice a' k' c') 28
    exact (Rec.G h ((G.refl (w.alloc (.cells #[.bool s, .slice a k c, .slice a' k' c'] 28))).alloc (.cells #[.bool t, .slice b j e, .slice b' j' e'] 28)))
  have R1 : Hid (Rec (World.alloc (w.alloc (.cells #[.bool s, .slice a k c, .slice a' k' c'] 28)) (.cells #[.bool t, .slice b j e, .slice b' j' e'] 28)) (w.heap.size + 1) [.bool t, .slice b j e, .slice b' j' e']) := by
    have h := Rec.new3 (w.alloc (.cells #[.bool s, .slice a k c, .slice a' k' c'] 28)) (.bool t) (.slice b j e) (.slice b' j' e') 28
    rw [show (w.alloc (.cells #[.bool s, .slice a k c, .slice a' k' c'] 28)).heap.size = w.heap.size + 1 from by simp] at h
    exact h
  have hz0 : (World.alloc (w.alloc (.cells #[.bool s, .slice a k c, .slice a' k' c'] 28)) (.cells #[.bool t, .slice b j e, .slice b' j' e'] 28)).heap.size = w.heap.size + 2 := by simp
  generalize (World.alloc (w.alloc (.cells #[.bool s, .slice a k c, .slice a' k' c'] 28)) (.cells #[.bool t, .slice b j e, .slice b' j' e'] 28)) = w0 at *
  refine region_each 13 0 #[true, true, true, true, true, true, true, true, true, true, true, true, true] [.is (.pointer (some ⟨w.heap.size, 0, none⟩)), .is (.agg #[.bool s, .slice a k c]), .is (.agg #[.bool t, .slice b j e, .slice b' j' e']), .any (fun v w' => Num w' v (r)), .any (fun v w' => WholeIs w' v (A)), .is (.pointer (some ⟨w.heap.size + 1, 0, none⟩)), .is (.agg #[.bool t, .slice b j e]), .is (.agg #[.bool s, .slice a k c, .slice a' k' c']), .any (fun v w' => Num w' v (p)), .any (fun v w' => WholeIs w' v (B)), .any (fun v w' => WholeIs w' v (z)), .is (.int .i64 sz), .is (.int .i64 sz)] [some 5, some 6, some 7, some 8, some 9, some 10, some 11, some 12, some 13, some 14, some 15, some 16, some 4] (by kernel_rfl) (by kernel_rfl) rfl (by kernel_rfl) (by repeat (first | exact trivial | refine ⟨fun _ _ _ g h => by first | exact h.G g | exact fun w3 g3 => h w3 (G.trans g g3), ?_⟩)) (by kernel_rfl) (by kernel_rfl) ?_
  refine Letters.is ?_
  refine Letters.is ?_
  refine Letters.is ?_
  refine Letters.any fun v3 => ?_
  refine Letters.any fun v4 => ?_
  refine Letters.is ?_
  refine Letters.is ?_
  refine Letters.is ?_
  refine Letters.any fun v8 => ?_
  refine Letters.any fun v9 => ?_
  refine Letters.any fun v10 => ?_
  refine Letters.is ?_
  refine Letters.is ?_
  refine Letters.nil ?_
  intro A hA
  simp only [fillD, Act.put, List.setIfInBounds_toArray, List.set_cons_zero, List.set_cons_succ] at hA
  subst hA
  refine ⟨?_, ?_⟩
  · skip
    refine Eaches.cons rfl ?_ ?_
    · intro W hW hD K hK
      clear hD
      go_simp
      exact hK.out _ _ ⟨_, by first | (simp only [Act.put, List.setIfInBounds_toArray, List.set_cons_zero, List.set_cons_succ]; done) | simp only [Act.put, List.setIfInBounds_toArray, List.set_cons_zero, List.set_cons_succ, *], G.refl _, rfl⟩
    refine Eaches.cons rfl ?_ ?_
    · intro W hW hD K hK
      clear hD
      have hR0 := Rec.f3 (Rec.G R0.out hW)
      have hR0_0 := hR0.1
      have hR0_1 := hR0.2.1
      have hR0_2 := hR0.2.2.1
      clear hR0
      have hR1 := Rec.f3 (Rec.G R1.out hW)
      have hR1_0 := hR1.1
      have hR1_1 := hR1.2.1
      have hR1_2 := hR1.2.2.1
      clear hR1
      go_simp
      exact hK.out _ _ ⟨_, by first | (simp only [Act.put, List.setIfInBounds_toArray, List.set_cons_zero, List.set_cons_succ]; done) | simp only [Act.put, List.setIfInBounds_toArray, List.set_cons_zero, List.set_cons_succ, *], G.refl _, rfl⟩
    refine Eaches.cons rfl ?_ ?_
    · intro W hW hD K hK
      clear hD
      have hR0 := Rec.f3 (Rec.G R0.out hW)
      have hR0_0 := hR0.1
      have hR0_1 := hR0.2.1
      have hR0_2 := hR0.2.2.1
      clear hR0
      have hR1 := Rec.f3 (Rec.G R1.out hW)
      have hR1_0 := hR1.1
      have hR1_1 := hR1.2.1
      have hR1_2 := hR1.2.2.1
      clear hR1
      go_simp
      exact hK.out _ _ ⟨_, by first | (simp only [Act.put, List.setIfInBounds_toArray, List.set_cons_zero, List.set_cons_succ]; done) | simp only [Act.put, List.setIfInBounds_toArray, List.set_cons_zero, List.set_cons_succ, *], G.refl _, rfl⟩
    refine Eaches.cons rfl ?_ ?_
    · intro W hW hD K hK
      clear hD
      go_simp
      go_wp2_with (go_at_call 72; refine Calls.mono (P := Tryz.prog) (HBY.out W (G.trans g0 hW)) ?_; intro e w9 hs; obtain ⟨u9, rfl, g9, hn9⟩ := hs)
      exact hK.out _ _ ⟨_, by first | (simp only [Act.put, List.setIfInBounds_toArray, List.set_cons_zero, List.set_cons_succ]; done) | simp only [Act.put, List.setIfInBounds_toArray, List.set_cons_zero, List.set_cons_succ, *], g9, hn9⟩
    refine Eaches.cons rfl ?_ ?_
    · intro W hW hD K hK
      have h3 := Deps.get (v := v3) 3 hD rfl rfl (by kernel_rfl)
      clear hD
      go_simp
      go_wp2_with (go_at_call 96; refine Calls.mono (P := Tryz.prog) (HT1.out W v3 (G.trans g0 hW) h3) ?_; intro e w9 hs; obtain ⟨u9, rfl, g9, hn9⟩ := hs)
      exact hK.out _ _ ⟨_, by first | (simp only [Act.put, List.setIfInBounds_toArray, List.set_cons_zero, List.set_cons_succ]; done) | simp only [Act.put, List.setIfInBounds_toArray, List.set_cons_zero, List.set_cons_succ, *], g9, hn9⟩
    refine Eaches.cons rfl ?_ ?_
    · intro W hW hD K hK
      clear hD
      go_simp
      exact hK.out _ _ ⟨_, by first | (simp only [Act.put, List.setIfInBounds_toArray, List.set_cons_zero, List.set_cons_succ]; done) | simp only [Act.put, List.setIfInBounds_toArray, List.set_cons_zero, List.set_cons_succ, *], G.refl _, rfl⟩
    refine Eaches.cons rfl ?_ ?_
    · intro W hW hD K hK
      clear hD
      have hR0 := Rec.f3 (Rec.G R0.out hW)
      have hR0_0 := hR0.1
      have hR0_1 := hR0.2.1
      have hR0_2 := hR0.2.2.1
      clear hR0
      have hR1 := Rec.f3 (Rec.G R1.out hW)
      have hR1_0 := hR1.1
      have hR1_1 := hR1.2.1
      have hR1_2 := hR1.2.2.1
      clear hR1
      go_simp
      exact hK.out _ _ ⟨_, by first | (simp only [Act.put, List.setIfInBounds_toArray, List.set_cons_zero, List.set_cons_succ]; done) | simp only [Act.put, List.setIfInBounds_toArray, List.set_cons_zero, List.set_cons_succ, *], G.refl _, rfl⟩
    refine Eaches.cons rfl ?_ ?_
    · intro W hW hD K hK
      clear hD
      have hR0 := Rec.f3 (Rec.G R0.out hW)
      have hR0_0 := hR0.1
      have hR0_1 := hR0.2.1
      have hR0_2 := hR0.2.2.1
      clear hR0
      have hR1 := Rec.f3 (Rec.G R1.out hW)
      have hR1_0 := hR1.1
      have hR1_1 := hR1.2.1
      have hR1_2 := hR1.2.2.1
      clear hR1
      go_simp
      exact hK.out _ _ ⟨_, by first | (simp only [Act.put, List.setIfInBounds_toArray, List.set_cons_zero, List.set_cons_succ]; done) | simp only [Act.put, List.setIfInBounds_toArray, List.set_cons_zero, List.set_cons_succ, *], G.refl _, rfl⟩
    refine Eaches.cons rfl ?_ ?_
    · intro W hW hD K hK
      clear hD
      go_simp
      go_wp2_with (go_at_call 72; refine Calls.mono (P := Tryz.prog) (HBX.out W (G.trans g0 hW)) ?_; intro e w9 hs; obtain ⟨u9, rfl, g9, hn9⟩ := hs)
      exact hK.out _ _ ⟨_, by first | (simp only [Act.put, List.setIfInBounds_toArray, List.set_cons_zero, List.set_cons_succ]; done) | simp only [Act.put, List.setIfInBounds_toArray, List.set_cons_zero, List.set_cons_succ, *], g9, hn9⟩
    refine Eaches.cons rfl ?_ ?_
    · intro W hW hD K hK
      have h8 := Deps.get (v := v8) 8 hD rfl rfl (by kernel_rfl)
      clear hD
      go_simp
      go_wp2_with (go_at_call 96; refine Calls.mono (P := Tryz.prog) (HT2.out W v8 (G.trans g0 hW) h8) ?_; intro e w9 hs; obtain ⟨u9, rfl, g9, hn9⟩ := hs)
      exact hK.out _ _ ⟨_, by first | (simp only [Act.put, List.setIfInBounds_toArray, List.set_cons_zero, List.set_cons_succ]; done) | simp only [Act.put, List.setIfInBounds_toArray, List.set_cons_zero, List.set_cons_succ, *], g9, hn9⟩
    refine Eaches.cons rfl ?_ ?_
    · intro W hW hD K hK
      have h4 := Deps.get (v := v4) 4 hD rfl rfl (by kernel_rfl)
      have h9 := Deps.get (v := v9) 9 hD rfl rfl (by kernel_rfl)
      clear hD
      go_simp
      go_wp2_with (go_at_call 97; refine Calls.mono (P := Tryz.prog) (HM.out W v4 v9 h4 h9) ?_; intro e w9 hs; obtain ⟨u9, rfl, g9, hn9⟩ := hs)
      exact hK.out _ _ ⟨_, by first | (simp only [Act.put, List.setIfInBounds_toArray, List.set_cons_zero, List.set_cons_succ]; done) | simp only [Act.put, List.setIfInBounds_toArray, List.set_cons_zero, List.set_cons_succ, *], g9, hn9⟩
    refine Eaches.cons rfl ?_ ?_
    · intro W hW hD K hK
      have h10 := Deps.get (v := v10) 10 hD rfl rfl (by kernel_rfl)
      clear hD
      go_simp
      go_wp2_with (go_at_call 98; refine Calls.mono (P := Tryz.prog) (HS.out W v10 h10) ?_; intro e w9 hs; obtain ⟨rfl, g9⟩ := hs)
      exact hK.out _ _ ⟨_, by first | (simp only [Act.put, List.setIfInBounds_toArray, List.set_cons_zero, List.set_cons_succ]; done) | simp only [Act.put, List.setIfInBounds_toArray, List.set_cons_zero, List.set_cons_succ, *], g9, rfl⟩
    refine Eaches.cons rfl ?_ ?_
    · intro W hW hD K hK
      clear hD
      go_simp
      exact hK.out _ _ ⟨_, by first | (simp only [Act.put, List.setIfInBounds_toArray, List.set_cons_zero, List.set_cons_succ]; done) | simp only [Act.put, List.setIfInBounds_toArray, List.set_cons_zero, List.set_cons_succ, *], G.refl _, rfl⟩
    exact Eaches.nil
  intro w1 g1 hH
  clear hH
  refine wpAny_done (by kernel_rfl) ?_ _
  clear HM HS HT1 HT2 HBX HBY R0 R1
  go_wp2_with fail
  go_ret
  exact ⟨rfl, G.trans g0 g1⟩

/-- A whole number times a power of two. -/
def mk2 (m e : Int) : Rat := mkRat (m * ((2 ^ e.toNat : Nat) : Int)) (2 ^ (-e).toNat)

set_option maxHeartbeats 1000000 in
theorem shifted_c (w : World) (m e : Int) (h1 : -9223372036854775808 ≤ m) (h2 : m < 9223372036854775808) (h3 : -1000000 ≤ e) (h4 : e ≤ 1000000) (hm : m = 0 ∨ m % 2 = 1) :
    Calls Tryz.prog 70 #[.int .i64 m, .int .i64 e] w (RetQ w (mk2 m e)) := by
  have HW : Hid (∀ w1, _) := fun w1 => wholeOf_c w1 m h1 h2
  have hmb : m.natAbs < 2 ^ (64 * 1) := by omega
  by_cases he : e < 0
  · obtain ⟨n, rfl⟩ : ∃ n : Nat, e = -(n : Int) := ⟨e.natAbs, by omega⟩
    have hmk : mk2 m (-(n : Int)) = mkRat m (2 ^ n) := by
      unfold mk2
      rw [show (-(n : Int)).toNat = 0 from by omega, show (- -(n : Int)).toNat = n from by omega]
      simp
    rw [hmk]
    obtain ⟨K, hK⟩ : ∃ K, K = 15626 := ⟨_, rfl⟩
    have hpw : 2 ^ n < 2 ^ (64 * K) := Nat.pow_lt_pow_right (by omega) (by omega)
    have HL : Hid (∀ w1 v1, Num w1 v1 1 → Calls Tryz.prog 155 #[v1, .int .i64 (n : Int)] w1 (RetNum w1 (2 ^ n))) := fun w1 v1 hv => by
      have h := left_c w1 v1 1 n 1 (by omega) (by omega) hv (by omega)
      rw [Nat.one_mul] at h; exact h
    have hcop : m ≠ 0 → Nat.gcd m.natAbs (2 ^ n) = 1 := fun h0 => by
      have h5 : m.natAbs = 2 * (m.natAbs / 2) + 1 := by omega
      rw [h5]; exact odd_cop _ _
    have HF : Hid (∀ w1 v1 v2, WholeIs w1 v1 m → Num w1 v2 (2 ^ n) → _) := fun w1 v1 v2 k1 k2 => fraction_c w1 v1 v2 m (2 ^ n) K (mkRat m (2 ^ n)) k1 k2 (Nat.two_pow_pos n) hpw hcop rfl
    have hd : decide (-(n : Int) < 0) = true := decide_eq_true he
    have hnn : - -(n : Int) = n := by omega
    have hwn : IntKind.i64.wrap (n : Int) = n := by rw [IntKind.wrap_i64]; omega
    have hb : (n : Int) ≤ 1000000 := by omega
    have hn1 : (1 : Int) ≤ n := by omega
    generalize -(n : Int) = e at *
    generalize mkRat m (2 ^ n) = q at *
    generalize 2 ^ n = P at *
    clear hmk hpw hcop hmb hm h1 h2 he hK
    go_enter Tryz.func70, Tryz.ntmps70
    go_wp2_with fail
    have g0 : G w (w.alloc (.cells #[.bool false, .slice none 0 0, .slice none 0 0] 28)) := ((G.refl w).alloc _)
    have R0 : Hid (Rec (w.alloc (.cells #[.bool false, .slice none 0 0, .slice none 0 0] 28)) (w.heap.size) [.bool false, .slice none 0 0, .slice none 0 0]) := by
      have h := Rec.new3 w (.bool false) (.slice none 0 0) (.slice none 0 0) 28
      exact h
    have hz0 : (w.alloc (.cells #[.bool false, .slice none 0 0, .slice none 0 0] 28)).heap.size = w.heap.size + 1 := by simp
    generalize (w.alloc (.cells #[.bool false, .slice none 0 0, .slice none 0 0] 28)) = w0 at *
    refine Calls.mono (P := Tryz.prog) (HW.out w0) ?_
    intro e2 w1 hs
    obtain ⟨v1, rfl, g1, ⟨a, k, c, rfl, k1⟩⟩ := hs
    obtain ⟨s, hs⟩ : ∃ s, s = decide (m < 0) := ⟨_, rfl⟩
    have K1 : Hid (Num w1 (.slice a k c) m.natAbs) := k1
    have HSS : Hid (s = decide (m < 0)) := hs
    rw [← hs]
    clear k1 hs HW
    go_wp2_with fail
    have S0 : Hid (Rec _ _ _) := Rec.G R0.out (g1)
    have g01 := G.trans g0 g1
    clear R0 g0 g1
    have g2 : G w1 (w1.alloc (.cells #[.bool s, .slice a k c] 26)) := ((G.refl w1).alloc _)
    have R0 : Hid (Rec (w1.alloc (.cells #[.bool s, .slice a k c] 26)) (w1.heap.size) [.bool s, .slice a k c]) := by
      have h := Rec.new2 w1 (.bool s) (.slice a k c) 26
      exact h
    have hz2 : (w1.alloc (.cells #[.bool s, .slice a k c] 26)).heap.size = w1.heap.size + 1 := by simp
    generalize (w1.alloc (.cells #[.bool s, .slice a k c] 26)) = w2 at *
    refine region_each 6 1 #[true, true, true, true, true, true, false] [.is (.agg #[.bool s, .slice a k c]), .any (fun v w' => Num w' v (1)), .is (.int .i64 e), .is (.int .i64 n), .any (fun v w' => Num w' v (P)), .any (fun v w' => QIs w' v (q))] [some 10, some 11, some 12, some 13, some 14, some 15] (by kernel_rfl) (by kernel_rfl) rfl (by kernel_rfl) (by repeat (first | exact trivial | refine ⟨fun _ _ _ g h => by first | exact h.G g | exact fun w3 g3 => h w3 (G.trans g g3), ?_⟩)) (by kernel_rfl) (by kernel_rfl) ?_
    refine Letters.is ?_
    refine Letters.any fun v1 => ?_
    refine Letters.is ?_
    refine Letters.is ?_
    refine Letters.any fun v4 => ?_
    refine Letters.any fun v5 => ?_
    refine Letters.nil ?_
    intro A hA
    simp only [fillD, Act.put, List.setIfInBounds_toArray, List.set_cons_zero, List.set_cons_succ] at hA
    subst hA
    refine ⟨?_, ?_⟩
    · skip
      refine Eaches.cons rfl ?_ ?_
      · intro W hW hD K hK
        clear hD
        have hR0 := Rec.f2 (Rec.G R0.out hW)
        have hR0_0 := hR0.1
        have hR0_1 := hR0.2.1
        clear hR0
        go_simp
        exact hK.out _ _ ⟨_, by first | (simp only [Act.put, List.setIfInBounds_toArray, List.set_cons_zero, List.set_cons_succ]; done) | simp only [Act.put, List.setIfInBounds_toArray, List.set_cons_zero, List.set_cons_succ, *], G.refl _, rfl⟩
      refine Eaches.cons rfl ?_ ?_
      · intro W hW hD K hK
        clear hD
        go_simp
        exact hK.out _ _ ⟨_, by first | (simp only [Act.put, List.setIfInBounds_toArray, List.set_cons_zero, List.set_cons_succ]; done) | simp only [Act.put, List.setIfInBounds_toArray, List.set_cons_zero, List.set_cons_succ, *], (G.refl _).alloc _, num_one (by decide) (by decide)⟩
      refine Eaches.cons rfl ?_ ?_
      · intro W hW hD K hK
        clear hD
        go_simp
        exact hK.out _ _ ⟨_, by first | (simp only [Act.put, List.setIfInBounds_toArray, List.set_cons_zero, List.set_cons_succ]; done) | simp only [Act.put, List.setIfInBounds_toArray, List.set_cons_zero, List.set_cons_succ, *], G.refl _, rfl⟩
      refine Eaches.cons rfl ?_ ?_
      · intro W hW hD K hK
        clear hD
        go_simp
        exact hK.out _ _ ⟨_, by first | (simp only [Act.put, List.setIfInBounds_toArray, List.set_cons_zero, List.set_cons_succ]; done) | simp only [Act.put, List.setIfInBounds_toArray, List.set_cons_zero, List.set_cons_succ, *], G.refl _, rfl⟩
      refine Eaches.cons rfl ?_ ?_
      · intro W hW hD K hK
        have h1 := Deps.get (v := v1) 1 hD rfl rfl (by kernel_rfl)
        clear hD
        go_simp
        go_wp2_with (go_at_call 155; refine Calls.mono (P := Tryz.prog) (HL.out W v1 h1) ?_; intro e w9 hs; obtain ⟨u9, rfl, g9, hn9⟩ := hs)
        exact hK.out _ _ ⟨_, by first | (simp only [Act.put, List.setIfInBounds_toArray, List.set_cons_zero, List.set_cons_succ]; done) | simp only [Act.put, List.setIfInBounds_toArray, List.set_cons_zero, List.set_cons_succ, *], g9, hn9⟩
      refine Eaches.cons rfl ?_ ?_
      · intro W hW hD K hK
        have h4 := Deps.get (v := v4) 4 hD rfl rfl (by kernel_rfl)
        clear hD
        go_simp
        go_wp2_with (go_at_call 52; refine Calls.mono (P := Tryz.prog) (HF.out W (.agg #[.bool s, .slice a k c]) v4 (QIs.top' (K1.out.G (G.trans g2 hW)) HSS.out) h4) ?_; intro e w9 hs; obtain ⟨u9, rfl, g9, hn9⟩ := hs)
        exact hK.out _ _ ⟨_, by first | (simp only [Act.put, List.setIfInBounds_toArray, List.set_cons_zero, List.set_cons_succ]; done) | simp only [Act.put, List.setIfInBounds_toArray, List.set_cons_zero, List.set_cons_succ, *], g9, hn9⟩
      exact Eaches.nil
    intro w3 g3 hH
    have h5 := Helds.get (v := v5) 5 hH rfl rfl
    clear hH
    clear HL HF R0 K1 HSS
    have g13 := G.trans g2 g3
    clear g2 g3
    obtain ⟨a8, k8, c8, a9, k9, c9, rfl, hm8, hm9⟩ := h5
    have HN8 : Hid (Num w3 (.slice a8 k8 c8) (q).num.natAbs) := hm8
    have HN9 : Hid (Num w3 (.slice a9 k9 c9) (lowOf (q).den)) := hm9
    obtain ⟨t9, ht9⟩ : ∃ t, t = decide ((q).num < 0) := ⟨_, rfl⟩
    rw [← ht9]
    have HT9 : Hid (t9 = decide ((q).num < 0)) := ht9
    clear hm8 hm9 ht9
    have hS := Rec.f3 (Rec.G S0.out (g13))
    have hS_0 := hS.1
    have hS_1 := hS.2.1
    have hS_2 := hS.2.2.1
    have hS_3 := hS.2.2.2.1
    have hS_4 := hS.2.2.2.2.1
    have hS_5 := hS.2.2.2.2.2
    clear hS
    refine wpAny_ready (rs := [6]) (by kernel_rfl) (by simp) ?_
    refine AllReady.cons rfl (fun K hK => ?_) AllReady.nil
    go_simp
    refine hK _ _ ?_
    clear hK K hS_0 hS_1 hS_2 hS_3 hS_4 hS_5
    refine wpAny_done (by kernel_rfl) ?_ _
    have HN8' : Num _ _ _ := num_set3 (u1 := .bool t9) (u2 := .slice a8 k8 c8) (u3 := .slice a9 k9 c9) HN8.out (Rec.G S0.out (g13)) trivial trivial trivial
    have HN9' : Num _ _ _ := num_set3 (u1 := .bool t9) (u2 := .slice a8 k8 c8) (u3 := .slice a9 k9 c9) HN9.out (Rec.G S0.out (g13)) trivial trivial trivial
    go_wp2_with fail
    have hT : Hid (Rec (World.setCell (World.setCell (World.setCell w3 ⟨w.heap.size, 0, none⟩ (.bool t9)) ⟨w.heap.size, 1, none⟩ (.slice a8 k8 c8)) ⟨w.heap.size, 2, none⟩ (.slice a9 k9 c9)) (w.heap.size) [.bool t9, .slice a8 k8 c8, .slice a9 k9 c9]) := Rec.set3 (Rec.G S0.out (g13))
    have g9 := Rec.g3 (b := w.heap.size) (u := .bool t9) (v := .slice a8 k8 c8) (x := .slice a9 k9 c9) (G.trans g01 g13) (by omega)
    generalize (World.setCell (World.setCell (World.setCell w3 ⟨w.heap.size, 0, none⟩ (.bool t9)) ⟨w.heap.size, 1, none⟩ (.slice a8 k8 c8)) ⟨w.heap.size, 2, none⟩ (.slice a9 k9 c9)) = w9 at *
    have hF := Rec.f3 (Rec.G hT.out ((G.refl _)))
    have hF_0 := hF.1
    have hF_1 := hF.2.1
    have hF_2 := hF.2.2.1
    have hF_3 := hF.2.2.2.1
    have hF_4 := hF.2.2.2.2.1
    have hF_5 := hF.2.2.2.2.2
    clear hF
    refine bodyPost_ret (v := .agg #[.bool t9, .slice a8 k8 c8, .slice a9 k9 c9]) (by simp [results, Tryz.results70, go_sem, *]) rfl ?_
    exact ⟨_, rfl, g9, a8, k8, c8, a9, k9, c9, by rw [← HT9.out], HN8', HN9'⟩
  · obtain ⟨n, rfl⟩ : ∃ n : Nat, e = (n : Int) := ⟨e.natAbs, by omega⟩
    have hmk : mk2 m (n : Int) = ((m * ((2 ^ n : Nat) : Int) : Int) : Rat) := by
      unfold mk2
      rw [show (-(n : Int)).toNat = 0 from by omega, show (n : Int).toNat = n from by omega, mkRat_one]
    rw [hmk]
    obtain ⟨t, ht⟩ : ∃ t, t = decide (m < 0) := ⟨_, rfl⟩
    have HL : Hid (∀ w1 v1, Num w1 v1 m.natAbs → _) := fun w1 v1 hv => left_c w1 v1 m.natAbs n 1 (by omega) (by omega) hv hmb
    have hsg : sgn t (m.natAbs * 2 ^ n) = m * ((2 ^ n : Nat) : Int) := by
      have h := sgn_abs m
      rw [← ht] at h
      rw [sgn_scale, h]
    have HS : Hid (∀ w1 v1, Num w1 v1 (m.natAbs * 2 ^ n) → Calls Tryz.prog 53 #[.bool t, v1] w1 (RetWhole w1 (m * ((2 ^ n : Nat) : Int)))) := fun w1 v1 hv => by
      have h := signed_c w1 v1 t _ hv
      rw [hsg] at h; exact h
    have HF : Hid (∀ w1 v1 v2, WholeIs w1 v1 (m * ((2 ^ n : Nat) : Int)) → Num w1 v2 1 → _) := fun w1 v1 v2 k1 k2 => fraction_c w1 v1 v2 (m * ((2 ^ n : Nat) : Int)) 1 1 ((m * ((2 ^ n : Nat) : Int) : Int) : Rat) k1 k2 (by omega) (by omega) (fun _ => Nat.gcd_one_right _) (mkRat_one _)
    have hd : decide ((n : Int) < 0) = false := by simp
    have hb : (n : Int) ≤ 1000000 := by omega
    generalize ((m * ((2 ^ n : Nat) : Int) : Int) : Rat) = q at *
    generalize m * ((2 ^ n : Nat) : Int) = z at *
    generalize m.natAbs * 2 ^ n = P at *
    have HTT : Hid (t = decide (m < 0)) := ht
    clear hmk hmb hm h1 h2 he h3 h4 hsg ht
    go_enter Tryz.func70, Tryz.ntmps70
    go_wp2_with fail
    have g0 : G w (w.alloc (.cells #[.bool false, .slice none 0 0, .slice none 0 0] 28)) := ((G.refl w).alloc _)
    have R0 : Hid (Rec (w.alloc (.cells #[.bool false, .slice none 0 0, .slice none 0 0] 28)) (w.heap.size) [.bool false, .slice none 0 0, .slice none 0 0]) := by
      have h := Rec.new3 w (.bool false) (.slice none 0 0) (.slice none 0 0) 28
      exact h
    have hz0 : (w.alloc (.cells #[.bool false, .slice none 0 0, .slice none 0 0] 28)).heap.size = w.heap.size + 1 := by simp
    generalize (w.alloc (.cells #[.bool false, .slice none 0 0, .slice none 0 0] 28)) = w0 at *
    refine Calls.mono (P := Tryz.prog) (HW.out w0) ?_
    intro e2 w1 hs
    obtain ⟨v1, rfl, g1, ⟨a, k, c, rfl, k1⟩⟩ := hs
    have K1 : Hid (Num w1 (.slice a k c) m.natAbs) := k1
    rw [← HTT.out]
    clear k1 HW HTT
    go_wp2_with fail
    have S0 : Hid (Rec _ _ _) := Rec.G R0.out (g1)
    have g01 := G.trans g0 g1
    clear R0 g0 g1
    have g2 : G w1 (w1.alloc (.cells #[.bool t, .slice a k c] 26)) := ((G.refl w1).alloc _)
    have R0 : Hid (Rec (w1.alloc (.cells #[.bool t, .slice a k c] 26)) (w1.heap.size) [.bool t, .slice a k c]) := by
      have h := Rec.new2 w1 (.bool t) (.slice a k c) 26
      exact h
    have hz2 : (w1.alloc (.cells #[.bool t, .slice a k c] 26)).heap.size = w1.heap.size + 1 := by simp
    generalize (w1.alloc (.cells #[.bool t, .slice a k c] 26)) = w2 at *
    refine region_each 9 1 #[true, true, true, true, true, true, true, true, true, false] [.is (.pointer (some ⟨w1.heap.size, 0, none⟩)), .is (.bool t), .is (.pointer (some ⟨w1.heap.size, 1, none⟩)), .is (.slice a k c), .is (.int .i64 n), .any (fun v w' => Num w' v (P)), .any (fun v w' => WholeIs w' v (z)), .any (fun v w' => Num w' v (1)), .any (fun v w' => QIs w' v (q))] [some 16, some 17, some 18, some 19, some 20, some 21, some 22, some 23, some 24] (by kernel_rfl) (by kernel_rfl) rfl (by kernel_rfl) (by repeat (first | exact trivial | refine ⟨fun _ _ _ g h => by first | exact h.G g | exact fun w3 g3 => h w3 (G.trans g g3), ?_⟩)) (by kernel_rfl) (by kernel_rfl) ?_
    refine Letters.is ?_
    refine Letters.is ?_
    refine Letters.is ?_
    refine Letters.is ?_
    refine Letters.is ?_
    refine Letters.any fun v5 => ?_
    refine Letters.any fun v6 => ?_
    refine Letters.any fun v7 => ?_
    refine Letters.any fun v8 => ?_
    refine Letters.nil ?_
    intro A hA
    simp only [fillD, Act.put, List.setIfInBounds_toArray, List.set_cons_zero, List.set_cons_succ] at hA
    subst hA
    refine ⟨?_, ?_⟩
    · skip
      refine Eaches.cons rfl ?_ ?_
      · intro W hW hD K hK
        clear hD
        go_simp
        exact hK.out _ _ ⟨_, by first | (simp only [Act.put, List.setIfInBounds_toArray, List.set_cons_zero, List.set_cons_succ]; done) | simp only [Act.put, List.setIfInBounds_toArray, List.set_cons_zero, List.set_cons_succ, *], G.refl _, rfl⟩
      refine Eaches.cons rfl ?_ ?_
      · intro W hW hD K hK
        clear hD
        have hR0 := Rec.f2 (Rec.G R0.out hW)
        have hR0_0 := hR0.1
        have hR0_1 := hR0.2.1
        clear hR0
        go_simp
        exact hK.out _ _ ⟨_, by first | (simp only [Act.put, List.setIfInBounds_toArray, List.set_cons_zero, List.set_cons_succ]; done) | simp only [Act.put, List.setIfInBounds_toArray, List.set_cons_zero, List.set_cons_succ, *], G.refl _, rfl⟩
      refine Eaches.cons rfl ?_ ?_
      · intro W hW hD K hK
        clear hD
        go_simp
        exact hK.out _ _ ⟨_, by first | (simp only [Act.put, List.setIfInBounds_toArray, List.set_cons_zero, List.set_cons_succ]; done) | simp only [Act.put, List.setIfInBounds_toArray, List.set_cons_zero, List.set_cons_succ, *], G.refl _, rfl⟩
      refine Eaches.cons rfl ?_ ?_
      · intro W hW hD K hK
        clear hD
        have hR0 := Rec.f2 (Rec.G R0.out hW)
        have hR0_0 := hR0.1
        have hR0_1 := hR0.2.1
        clear hR0
        go_simp
        exact hK.out _ _ ⟨_, by first | (simp only [Act.put, List.setIfInBounds_toArray, List.set_cons_zero, List.set_cons_succ]; done) | simp only [Act.put, List.setIfInBounds_toArray, List.set_cons_zero, List.set_cons_succ, *], G.refl _, rfl⟩
      refine Eaches.cons rfl ?_ ?_
      · intro W hW hD K hK
        clear hD
        go_simp
        exact hK.out _ _ ⟨_, by first | (simp only [Act.put, List.setIfInBounds_toArray, List.set_cons_zero, List.set_cons_succ]; done) | simp only [Act.put, List.setIfInBounds_toArray, List.set_cons_zero, List.set_cons_succ, *], G.refl _, rfl⟩
      refine Eaches.cons rfl ?_ ?_
      · intro W hW hD K hK
        clear hD
        go_simp
        go_wp2_with (go_at_call 155; refine Calls.mono (P := Tryz.prog) (HL.out W (.slice a k c) (K1.out.G (G.trans g2 hW))) ?_; intro e w9 hs; obtain ⟨u9, rfl, g9, hn9⟩ := hs)
        exact hK.out _ _ ⟨_, by first | (simp only [Act.put, List.setIfInBounds_toArray, List.set_cons_zero, List.set_cons_succ]; done) | simp only [Act.put, List.setIfInBounds_toArray, List.set_cons_zero, List.set_cons_succ, *], g9, hn9⟩
      refine Eaches.cons rfl ?_ ?_
      · intro W hW hD K hK
        have h5 := Deps.get (v := v5) 5 hD rfl rfl (by kernel_rfl)
        clear hD
        go_simp
        go_wp2_with (go_at_call 53; refine Calls.mono (P := Tryz.prog) (HS.out W v5 h5) ?_; intro e w9 hs; obtain ⟨u9, rfl, g9, hn9⟩ := hs)
        exact hK.out _ _ ⟨_, by first | (simp only [Act.put, List.setIfInBounds_toArray, List.set_cons_zero, List.set_cons_succ]; done) | simp only [Act.put, List.setIfInBounds_toArray, List.set_cons_zero, List.set_cons_succ, *], g9, hn9⟩
      refine Eaches.cons rfl ?_ ?_
      · intro W hW hD K hK
        clear hD
        go_simp
        exact hK.out _ _ ⟨_, by first | (simp only [Act.put, List.setIfInBounds_toArray, List.set_cons_zero, List.set_cons_succ]; done) | simp only [Act.put, List.setIfInBounds_toArray, List.set_cons_zero, List.set_cons_succ, *], (G.refl _).alloc _, num_one (by decide) (by decide)⟩
      refine Eaches.cons rfl ?_ ?_
      · intro W hW hD K hK
        have h6 := Deps.get (v := v6) 6 hD rfl rfl (by kernel_rfl)
        have h7 := Deps.get (v := v7) 7 hD rfl rfl (by kernel_rfl)
        clear hD
        go_simp
        go_wp2_with (go_at_call 52; refine Calls.mono (P := Tryz.prog) (HF.out W v6 v7 h6 h7) ?_; intro e w9 hs; obtain ⟨u9, rfl, g9, hn9⟩ := hs)
        exact hK.out _ _ ⟨_, by first | (simp only [Act.put, List.setIfInBounds_toArray, List.set_cons_zero, List.set_cons_succ]; done) | simp only [Act.put, List.setIfInBounds_toArray, List.set_cons_zero, List.set_cons_succ, *], g9, hn9⟩
      exact Eaches.nil
    intro w3 g3 hH
    have h8 := Helds.get (v := v8) 8 hH rfl rfl
    clear hH
    clear HL HF HS R0 K1
    have g13 := G.trans g2 g3
    clear g2 g3
    obtain ⟨a8, k8, c8, a9, k9, c9, rfl, hm8, hm9⟩ := h8
    have HN8 : Hid (Num w3 (.slice a8 k8 c8) (q).num.natAbs) := hm8
    have HN9 : Hid (Num w3 (.slice a9 k9 c9) (lowOf (q).den)) := hm9
    obtain ⟨t9, ht9⟩ : ∃ t, t = decide ((q).num < 0) := ⟨_, rfl⟩
    rw [← ht9]
    have HT9 : Hid (t9 = decide ((q).num < 0)) := ht9
    clear hm8 hm9 ht9
    have hS := Rec.f3 (Rec.G S0.out (g13))
    have hS_0 := hS.1
    have hS_1 := hS.2.1
    have hS_2 := hS.2.2.1
    have hS_3 := hS.2.2.2.1
    have hS_4 := hS.2.2.2.2.1
    have hS_5 := hS.2.2.2.2.2
    clear hS
    refine wpAny_ready (rs := [9]) (by kernel_rfl) (by simp) ?_
    refine AllReady.cons rfl (fun K hK => ?_) AllReady.nil
    go_simp
    refine hK _ _ ?_
    clear hK K hS_0 hS_1 hS_2 hS_3 hS_4 hS_5
    refine wpAny_done (by kernel_rfl) ?_ _
    have HN8' : Num _ _ _ := num_set3 (u1 := .bool t9) (u2 := .slice a8 k8 c8) (u3 := .slice a9 k9 c9) HN8.out (Rec.G S0.out (g13)) trivial trivial trivial
    have HN9' : Num _ _ _ := num_set3 (u1 := .bool t9) (u2 := .slice a8 k8 c8) (u3 := .slice a9 k9 c9) HN9.out (Rec.G S0.out (g13)) trivial trivial trivial
    go_wp2_with fail
    have hT : Hid (Rec (World.setCell (World.setCell (World.setCell w3 ⟨w.heap.size, 0, none⟩ (.bool t9)) ⟨w.heap.size, 1, none⟩ (.slice a8 k8 c8)) ⟨w.heap.size, 2, none⟩ (.slice a9 k9 c9)) (w.heap.size) [.bool t9, .slice a8 k8 c8, .slice a9 k9 c9]) := Rec.set3 (Rec.G S0.out (g13))
    have g9 := Rec.g3 (b := w.heap.size) (u := .bool t9) (v := .slice a8 k8 c8) (x := .slice a9 k9 c9) (G.trans g01 g13) (by omega)
    generalize (World.setCell (World.setCell (World.setCell w3 ⟨w.heap.size, 0, none⟩ (.bool t9)) ⟨w.heap.size, 1, none⟩ (.slice a8 k8 c8)) ⟨w.heap.size, 2, none⟩ (.slice a9 k9 c9)) = w9 at *
    have hF := Rec.f3 (Rec.G hT.out ((G.refl _)))
    have hF_0 := hF.1
    have hF_1 := hF.2.1
    have hF_2 := hF.2.2.1
    have hF_3 := hF.2.2.2.1
    have hF_4 := hF.2.2.2.2.1
    have hF_5 := hF.2.2.2.2.2
    clear hF
    refine bodyPost_ret (v := .agg #[.bool t9, .slice a8 k8 c8, .slice a9 k9 c9]) (by simp [results, Tryz.results70, go_sem, *]) rfl ?_
    exact ⟨_, rfl, g9, a8, k8, c8, a9, k9, c9, by rw [← HT9.out], HN8', HN9'⟩

theorem two_c (w : World) (e : Int) (h3 : -5000 ≤ e) (h4 : e ≤ 5000) :
    Calls Tryz.prog 30 #[.int .i64 e] w (RetQE w (mk2 1 e) 0) := by
  have HS : Hid (∀ w1, _) := fun w1 => shifted_c w1 1 e (by omega) (by omega) (by omega) (by omega) (Or.inr rfl)
  generalize mk2 1 e = q at *
  have h5 : decide (e < -5000) = false := decide_eq_false (by omega)
  have h6 : decide (5000 < e) = false := decide_eq_false (by omega)
  clear h3 h4
  go_enter Tryz.func30, Tryz.ntmps30
  go_wp2_with fail
  have g0 : G w (w.alloc (.cells #[.bool false, .slice none 0 0, .slice none 0 0] 28)) := ((G.refl w).alloc _)
  have R0 : Hid (Rec (w.alloc (.cells #[.bool false, .slice none 0 0, .slice none 0 0] 28)) (w.heap.size) [.bool false, .slice none 0 0, .slice none 0 0]) := by
    have h := Rec.new3 w (.bool false) (.slice none 0 0) (.slice none 0 0) 28
    exact h
  have hz0 : (w.alloc (.cells #[.bool false, .slice none 0 0, .slice none 0 0] 28)).heap.size = w.heap.size + 1 := by simp
  generalize (w.alloc (.cells #[.bool false, .slice none 0 0, .slice none 0 0] 28)) = w0 at *
  refine Calls.mono (P := Tryz.prog) (HS.out w0) ?_
  intro e2 w1 hs
  obtain ⟨v1, rfl, g1, k1⟩ := hs
  clear HS
  obtain ⟨a8, k8, c8, a9, k9, c9, rfl, hm8, hm9⟩ := k1
  have HN8 : Hid (Num w1 (.slice a8 k8 c8) (q).num.natAbs) := hm8
  have HN9 : Hid (Num w1 (.slice a9 k9 c9) (lowOf (q).den)) := hm9
  obtain ⟨t9, ht9⟩ : ∃ t, t = decide ((q).num < 0) := ⟨_, rfl⟩
  rw [← ht9]
  have HT9 : Hid (t9 = decide ((q).num < 0)) := ht9
  clear hm8 hm9 ht9
  have hS := Rec.f3 (Rec.G R0.out ((g1)))
  have hS_0 := hS.1
  have hS_1 := hS.2.1
  have hS_2 := hS.2.2.1
  have hS_3 := hS.2.2.2.1
  have hS_4 := hS.2.2.2.2.1
  have hS_5 := hS.2.2.2.2.2
  clear hS
  have HN8' : Num _ _ _ := num_set3 (u1 := .bool t9) (u2 := .slice a8 k8 c8) (u3 := .slice a9 k9 c9) HN8.out (Rec.G R0.out (g1)) trivial trivial trivial
  have HN9' : Num _ _ _ := num_set3 (u1 := .bool t9) (u2 := .slice a8 k8 c8) (u3 := .slice a9 k9 c9) HN9.out (Rec.G R0.out (g1)) trivial trivial trivial
  go_wp2_with fail
  have hT : Hid (Rec (World.setCell (World.setCell (World.setCell w1 ⟨w.heap.size, 0, none⟩ (.bool t9)) ⟨w.heap.size, 1, none⟩ (.slice a8 k8 c8)) ⟨w.heap.size, 2, none⟩ (.slice a9 k9 c9)) (w.heap.size) [.bool t9, .slice a8 k8 c8, .slice a9 k9 c9]) := Rec.set3 (Rec.G R0.out (g1))
  have g9 := Rec.g3 (b := w.heap.size) (u := .bool t9) (v := .slice a8 k8 c8) (x := .slice a9 k9 c9) (G.trans g0 g1) (by omega)
  generalize (World.setCell (World.setCell (World.setCell w1 ⟨w.heap.size, 0, none⟩ (.bool t9)) ⟨w.heap.size, 1, none⟩ (.slice a8 k8 c8)) ⟨w.heap.size, 2, none⟩ (.slice a9 k9 c9)) = w9 at *
  have hF := Rec.f3 (Rec.G hT.out ((G.refl _)))
  have hF_0 := hF.1
  have hF_1 := hF.2.1
  have hF_2 := hF.2.2.1
  have hF_3 := hF.2.2.2.1
  have hF_4 := hF.2.2.2.2.1
  have hF_5 := hF.2.2.2.2.2
  clear hF
  refine bodyPost_ret (v := .tuple #[.agg #[.bool t9, .slice a8 k8 c8, .slice a9 k9 c9], .int .i64 0]) (by simp [results, Tryz.results30, go_sem, *]) rfl ?_
  exact ⟨_, rfl, g9, a8, k8, c8, a9, k9, c9, by rw [← HT9.out], HN8', HN9'⟩

theorem two_far_c (w : World) (e : Int) (h : e < -5000 ∨ 5000 < e) :
    Calls Tryz.prog 30 #[.int .i64 e] w (RetQE w 0 3) := by
  by_cases h1 : e < -5000
  · have h5 : decide (e < -5000) = true := decide_eq_true h1
    clear h h1
    go_enter Tryz.func30, Tryz.ntmps30
    go_wp2_with fail
    refine bodyPost_ret (v := .tuple #[.agg #[.bool false, .slice none 0 0, .slice none 0 0], .int .i64 3]) (by simp [results, Tryz.results30, go_sem, *]) rfl ?_
    exact ⟨_, rfl, (G.refl _).alloc _, q_zero _⟩
  · have h5 : decide (e < -5000) = false := decide_eq_false h1
    have h6 : decide (5000 < e) = true := decide_eq_true (by omega)
    clear h h1
    go_enter Tryz.func30, Tryz.ntmps30
    go_wp2_with fail
    refine bodyPost_ret (v := .tuple #[.agg #[.bool false, .slice none 0 0, .slice none 0 0], .int .i64 3]) (by simp [results, Tryz.results30, go_sem, *]) rfl ?_
    exact ⟨_, rfl, (G.refl _).alloc _, q_zero _⟩
end Go.Proofs.YtahfkkkfpcdjaabGreatDoor.EN
namespace Go.Proofs.YtahfkkkfpcdjaabGreatDoor.EN
open Go.ChangeShapes Go.WideShapes Go.ChangeAt Go.RowKit

end Go.Proofs.YtahfkkkfpcdjaabGreatDoor.EN
namespace Go.Proofs.YtahfkkkfpcdjaabGreatDoor.EN
open Go.ChangeShapes Go.WideShapes Go.ChangeAt Go.RowKit

end Go.Proofs.YtahfkkkfpcdjaabGreatDoor.EN
namespace Go.Proofs.YtahfkkkfpcdjaabGreatDoor.EN
open Go.ChangeShapes Go.WideShapes Go.ChangeAt Go.RowKit

theorem scaled_c (w : World) (va : Value) (a K : Nat) (n : Int) (hK : K ≤ 500000) (hn1 : -1000000 ≤ n) (hn2 : n ≤ 1000000) (ha : Num w va a) (ha2 : a < 2 ^ (64 * K)) :
    Calls Tryz.prog 171 #[va, .int .i64 n] w (RetNum w (a * 2 ^ n.toNat)) := by
  have HL : Hid _ := left_c w va a n.toNat K hK (by omega) ha ha2
  have HM : Hid (max n 0 = ((n.toNat : Nat) : Int)) := by show max n 0 = _; omega
  generalize n.toNat = k at *
  generalize a * 2 ^ k = z at *
  clear ha ha2
  go_enter Tryz.func171, Tryz.ntmps171
  go_wp2_with fail
  rw [HM.out]
  refine Calls.mono (P := Tryz.prog) HL.out ?_
  intro e w1 hs
  obtain ⟨v, rfl, g1, hv⟩ := hs
  go_wp2_with fail
  go_ret
  exact ⟨_, rfl, g1, hv⟩

theorem cut_far_c (w : World) (Q : Nat) (e P : Int) (tails : Bool) (hQ0 : Q ≠ 0) (hQ : Q < 2 ^ 63) (he1 : -10000000 ≤ e) (he2 : e ≤ 10000000) (hP : P = max (e + blen Q - 53) (-1074)) (hf : 971 < P) :
    Calls Tryz.prog 168 #[.agg #[.int .u64 (Q : Int), .int .i64 e, .bool tails]] w fun r w' => r = .returned (.tuple #[.int .u64 9007199254740991, .int .i64 971, .int .i64 3]) ∧ G w w' := by
  have HB : Hid (∀ w1, _) := fun w1 => len64_c Q w1 (by omega)
  have hL : Lib.bitLen Q = blen Q := by rw [bitLen_log hQ0 (by omega)]; unfold blen; rw [if_neg hQ0]
  have hLb : blen Q ≤ 63 := by
    have := (Nat.log2_lt hQ0).2 hQ
    unfold blen; rw [if_neg hQ0]; omega
  rw [hL] at HB
  generalize blen Q = L at *
  have hmx : max (e + (L : Int) - 53) (-1074) = P := hP.symm
  have hw1 : IntKind.i64.wrap (e + (L : Int)) = e + (L : Int) := by rw [IntKind.wrap_i64]; omega
  have hw2 : IntKind.i64.wrap (e + (L : Int) - 53) = e + (L : Int) - 53 := by rw [IntKind.wrap_i64]; omega
  have hd : decide (971 < P) = true := decide_eq_true hf
  have hQb : (Q : Int) < 18446744073709551616 := by omega
  clear hQ0 hQ hL hP hf
  go_enter Tryz.func168, Tryz.ntmps168
  go_wp2_with fail
  have g0 : G w (w.alloc (.cells #[.int .u64 (Q : Int), .int .i64 e, .bool tails] 184)) := ((G.refl w).alloc _)
  have R0 : Hid (Rec (w.alloc (.cells #[.int .u64 (Q : Int), .int .i64 e, .bool tails] 184)) (w.heap.size) [.int .u64 (Q : Int), .int .i64 e, .bool tails]) := by
    have h := Rec.new3 w (.int .u64 (Q : Int)) (.int .i64 e) (.bool tails) 184
    exact h
  have hz0 : (w.alloc (.cells #[.int .u64 (Q : Int), .int .i64 e, .bool tails] 184)).heap.size = w.heap.size + 1 := by simp
  generalize (w.alloc (.cells #[.int .u64 (Q : Int), .int .i64 e, .bool tails] 184)) = w0 at *
  refine region_each 9 0 #[true, true, true, true, true, true, true, true, true] [.is (.pointer (some ⟨w.heap.size, 1, none⟩)), .is (.int .i64 e), .is (.pointer (some ⟨w.heap.size, 0, none⟩)), .is (.int .u64 Q), .is (.int .i64 L), .is (.int .i64 (e + L)), .is (.int .i64 (e + L - 53)), .is (.int .i64 P), .is (.int .i64 P)] [some 8, some 9, some 10, some 11, some 12, some 13, some 14, some 15, some 3] (by kernel_rfl) (by kernel_rfl) rfl (by kernel_rfl) (by repeat (first | exact trivial | refine ⟨fun _ _ _ g h => by first | exact h.G g | exact fun w3 g3 => h w3 (G.trans g g3), ?_⟩)) (by kernel_rfl) (by kernel_rfl) ?_
  refine Letters.is ?_
  refine Letters.is ?_
  refine Letters.is ?_
  refine Letters.is ?_
  refine Letters.is ?_
  refine Letters.is ?_
  refine Letters.is ?_
  refine Letters.is ?_
  refine Letters.is ?_
  refine Letters.nil ?_
  intro A hA
  simp only [fillD, Act.put, List.setIfInBounds_toArray, List.set_cons_zero, List.set_cons_succ] at hA
  subst hA
  refine ⟨?_, ?_⟩
  · skip
    refine Eaches.cons rfl ?_ ?_
    · intro W hW hD K hK
      clear hD
      go_simp
      exact hK.out _ _ ⟨_, by first | (simp only [Act.put, List.setIfInBounds_toArray, List.set_cons_zero, List.set_cons_succ]; done) | simp only [Act.put, List.setIfInBounds_toArray, List.set_cons_zero, List.set_cons_succ, *], G.refl _, rfl⟩
    refine Eaches.cons rfl ?_ ?_
    · intro W hW hD K hK
      clear hD
      have hR0 := Rec.f3 (Rec.G R0.out hW)
      have hR0_0 := hR0.1
      have hR0_1 := hR0.2.1
      have hR0_2 := hR0.2.2.1
      clear hR0
      go_simp
      exact hK.out _ _ ⟨_, by first | (simp only [Act.put, List.setIfInBounds_toArray, List.set_cons_zero, List.set_cons_succ]; done) | simp only [Act.put, List.setIfInBounds_toArray, List.set_cons_zero, List.set_cons_succ, *], G.refl _, rfl⟩
    refine Eaches.cons rfl ?_ ?_
    · intro W hW hD K hK
      clear hD
      go_simp
      exact hK.out _ _ ⟨_, by first | (simp only [Act.put, List.setIfInBounds_toArray, List.set_cons_zero, List.set_cons_succ]; done) | simp only [Act.put, List.setIfInBounds_toArray, List.set_cons_zero, List.set_cons_succ, *], G.refl _, rfl⟩
    refine Eaches.cons rfl ?_ ?_
    · intro W hW hD K hK
      clear hD
      have hR0 := Rec.f3 (Rec.G R0.out hW)
      have hR0_0 := hR0.1
      have hR0_1 := hR0.2.1
      have hR0_2 := hR0.2.2.1
      clear hR0
      go_simp
      exact hK.out _ _ ⟨_, by first | (simp only [Act.put, List.setIfInBounds_toArray, List.set_cons_zero, List.set_cons_succ]; done) | simp only [Act.put, List.setIfInBounds_toArray, List.set_cons_zero, List.set_cons_succ, *], G.refl _, rfl⟩
    refine Eaches.cons rfl ?_ ?_
    · intro W hW hD K hK
      clear hD
      go_simp
      go_wp2_with (go_at_call 248; refine Calls.mono (P := Tryz.prog) (HB.out W) ?_; intro e w9 hs; obtain ⟨rfl, g9⟩ := hs)
      exact hK.out _ _ ⟨_, by first | (simp only [Act.put, List.setIfInBounds_toArray, List.set_cons_zero, List.set_cons_succ]; done) | simp only [Act.put, List.setIfInBounds_toArray, List.set_cons_zero, List.set_cons_succ, *], g9, rfl⟩
    refine Eaches.cons rfl ?_ ?_
    · intro W hW hD K hK
      clear hD
      go_simp
      exact hK.out _ _ ⟨_, by first | (simp only [Act.put, List.setIfInBounds_toArray, List.set_cons_zero, List.set_cons_succ]; done) | simp only [Act.put, List.setIfInBounds_toArray, List.set_cons_zero, List.set_cons_succ, *], G.refl _, rfl⟩
    refine Eaches.cons rfl ?_ ?_
    · intro W hW hD K hK
      clear hD
      go_simp
      exact hK.out _ _ ⟨_, by first | (simp only [Act.put, List.setIfInBounds_toArray, List.set_cons_zero, List.set_cons_succ]; done) | simp only [Act.put, List.setIfInBounds_toArray, List.set_cons_zero, List.set_cons_succ, *], G.refl _, rfl⟩
    refine Eaches.cons rfl ?_ ?_
    · intro W hW hD K hK
      clear hD
      go_simp
      exact hK.out _ _ ⟨_, by first | (simp only [Act.put, List.setIfInBounds_toArray, List.set_cons_zero, List.set_cons_succ]; done) | simp only [Act.put, List.setIfInBounds_toArray, List.set_cons_zero, List.set_cons_succ, *], G.refl _, rfl⟩
    refine Eaches.cons rfl ?_ ?_
    · intro W hW hD K hK
      clear hD
      go_simp
      exact hK.out _ _ ⟨_, by first | (simp only [Act.put, List.setIfInBounds_toArray, List.set_cons_zero, List.set_cons_succ]; done) | simp only [Act.put, List.setIfInBounds_toArray, List.set_cons_zero, List.set_cons_succ, *], G.refl _, rfl⟩
    exact Eaches.nil
  intro w1 g1 hH
  clear hH
  refine wpAny_done (by kernel_rfl) ?_ _
  have g01 := G.trans g0 g1
  have S0 : Hid (Rec _ _ _) := Rec.G R0.out (g1)
  clear R0 g0 g1 HB
  go_wp2_with fail
  go_ret3
  exact ⟨rfl, g01⟩

theorem cut_low_c (w : World) (Q : Nat) (e P : Int) (tails : Bool) (hQ0 : Q ≠ 0) (hQ : Q < 2 ^ 63) (he1 : -10000000 ≤ e) (he2 : e ≤ 10000000) (hP : P = max (e + blen Q - 53) (-1074)) (hf : P ≤ 971) (hn : 63 < P - e) :
    Calls Tryz.prog 168 #[.agg #[.int .u64 (Q : Int), .int .i64 e, .bool tails]] w fun r w' => r = .returned (.tuple #[.int .u64 0, .int .i64 P, .int .i64 1]) ∧ G w w' := by
  have HB : Hid (∀ w1, _) := fun w1 => len64_c Q w1 (by omega)
  have hL : Lib.bitLen Q = blen Q := by rw [bitLen_log hQ0 (by omega)]; unfold blen; rw [if_neg hQ0]
  have hLb : blen Q ≤ 63 := by
    have := (Nat.log2_lt hQ0).2 hQ
    unfold blen; rw [if_neg hQ0]; omega
  rw [hL] at HB
  generalize blen Q = L at *
  have hmx : max (e + (L : Int) - 53) (-1074) = P := hP.symm
  have hw1 : IntKind.i64.wrap (e + (L : Int)) = e + (L : Int) := by rw [IntKind.wrap_i64]; omega
  have hw2 : IntKind.i64.wrap (e + (L : Int) - 53) = e + (L : Int) - 53 := by rw [IntKind.wrap_i64]; omega
  have hd : decide (971 < P) = false := decide_eq_false (by omega)
  have hd2 : decide (63 < P - e) = true := decide_eq_true hn
  have hP1 : -1074 ≤ P := by omega
  have hQb : (Q : Int) < 18446744073709551616 := by omega
  clear hQ0 hQ hL hP hn
  go_enter Tryz.func168, Tryz.ntmps168
  go_wp2_with fail
  have g0 : G w (w.alloc (.cells #[.int .u64 (Q : Int), .int .i64 e, .bool tails] 184)) := ((G.refl w).alloc _)
  have R0 : Hid (Rec (w.alloc (.cells #[.int .u64 (Q : Int), .int .i64 e, .bool tails] 184)) (w.heap.size) [.int .u64 (Q : Int), .int .i64 e, .bool tails]) := by
    have h := Rec.new3 w (.int .u64 (Q : Int)) (.int .i64 e) (.bool tails) 184
    exact h
  have hz0 : (w.alloc (.cells #[.int .u64 (Q : Int), .int .i64 e, .bool tails] 184)).heap.size = w.heap.size + 1 := by simp
  generalize (w.alloc (.cells #[.int .u64 (Q : Int), .int .i64 e, .bool tails] 184)) = w0 at *
  refine region_each 9 0 #[true, true, true, true, true, true, true, true, true] [.is (.pointer (some ⟨w.heap.size, 1, none⟩)), .is (.int .i64 e), .is (.pointer (some ⟨w.heap.size, 0, none⟩)), .is (.int .u64 Q), .is (.int .i64 L), .is (.int .i64 (e + L)), .is (.int .i64 (e + L - 53)), .is (.int .i64 P), .is (.int .i64 P)] [some 8, some 9, some 10, some 11, some 12, some 13, some 14, some 15, some 3] (by kernel_rfl) (by kernel_rfl) rfl (by kernel_rfl) (by repeat (first | exact trivial | refine ⟨fun _ _ _ g h => by first | exact h.G g | exact fun w3 g3 => h w3 (G.trans g g3), ?_⟩)) (by kernel_rfl) (by kernel_rfl) ?_
  refine Letters.is ?_
  refine Letters.is ?_
  refine Letters.is ?_
  refine Letters.is ?_
  refine Letters.is ?_
  refine Letters.is ?_
  refine Letters.is ?_
  refine Letters.is ?_
  refine Letters.is ?_
  refine Letters.nil ?_
  intro A hA
  simp only [fillD, Act.put, List.setIfInBounds_toArray, List.set_cons_zero, List.set_cons_succ] at hA
  subst hA
  refine ⟨?_, ?_⟩
  · skip
    refine Eaches.cons rfl ?_ ?_
    · intro W hW hD K hK
      clear hD
      go_simp
      exact hK.out _ _ ⟨_, by first | (simp only [Act.put, List.setIfInBounds_toArray, List.set_cons_zero, List.set_cons_succ]; done) | simp only [Act.put, List.setIfInBounds_toArray, List.set_cons_zero, List.set_cons_succ, *], G.refl _, rfl⟩
    refine Eaches.cons rfl ?_ ?_
    · intro W hW hD K hK
      clear hD
      have hR0 := Rec.f3 (Rec.G R0.out hW)
      have hR0_0 := hR0.1
      have hR0_1 := hR0.2.1
      have hR0_2 := hR0.2.2.1
      clear hR0
      go_simp
      exact hK.out _ _ ⟨_, by first | (simp only [Act.put, List.setIfInBounds_toArray, List.set_cons_zero, List.set_cons_succ]; done) | simp only [Act.put, List.setIfInBounds_toArray, List.set_cons_zero, List.set_cons_succ, *], G.refl _, rfl⟩
    refine Eaches.cons rfl ?_ ?_
    · intro W hW hD K hK
      clear hD
      go_simp
      exact hK.out _ _ ⟨_, by first | (simp only [Act.put, List.setIfInBounds_toArray, List.set_cons_zero, List.set_cons_succ]; done) | simp only [Act.put, List.setIfInBounds_toArray, List.set_cons_zero, List.set_cons_succ, *], G.refl _, rfl⟩
    refine Eaches.cons rfl ?_ ?_
    · intro W hW hD K hK
      clear hD
      have hR0 := Rec.f3 (Rec.G R0.out hW)
      have hR0_0 := hR0.1
      have hR0_1 := hR0.2.1
      have hR0_2 := hR0.2.2.1
      clear hR0
      go_simp
      exact hK.out _ _ ⟨_, by first | (simp only [Act.put, List.setIfInBounds_toArray, List.set_cons_zero, List.set_cons_succ]; done) | simp only [Act.put, List.setIfInBounds_toArray, List.set_cons_zero, List.set_cons_succ, *], G.refl _, rfl⟩
    refine Eaches.cons rfl ?_ ?_
    · intro W hW hD K hK
      clear hD
      go_simp
      go_wp2_with (go_at_call 248; refine Calls.mono (P := Tryz.prog) (HB.out W) ?_; intro e w9 hs; obtain ⟨rfl, g9⟩ := hs)
      exact hK.out _ _ ⟨_, by first | (simp only [Act.put, List.setIfInBounds_toArray, List.set_cons_zero, List.set_cons_succ]; done) | simp only [Act.put, List.setIfInBounds_toArray, List.set_cons_zero, List.set_cons_succ, *], g9, rfl⟩
    refine Eaches.cons rfl ?_ ?_
    · intro W hW hD K hK
      clear hD
      go_simp
      exact hK.out _ _ ⟨_, by first | (simp only [Act.put, List.setIfInBounds_toArray, List.set_cons_zero, List.set_cons_succ]; done) | simp only [Act.put, List.setIfInBounds_toArray, List.set_cons_zero, List.set_cons_succ, *], G.refl _, rfl⟩
    refine Eaches.cons rfl ?_ ?_
    · intro W hW hD K hK
      clear hD
      go_simp
      exact hK.out _ _ ⟨_, by first | (simp only [Act.put, List.setIfInBounds_toArray, List.set_cons_zero, List.set_cons_succ]; done) | simp only [Act.put, List.setIfInBounds_toArray, List.set_cons_zero, List.set_cons_succ, *], G.refl _, rfl⟩
    refine Eaches.cons rfl ?_ ?_
    · intro W hW hD K hK
      clear hD
      go_simp
      exact hK.out _ _ ⟨_, by first | (simp only [Act.put, List.setIfInBounds_toArray, List.set_cons_zero, List.set_cons_succ]; done) | simp only [Act.put, List.setIfInBounds_toArray, List.set_cons_zero, List.set_cons_succ, *], G.refl _, rfl⟩
    refine Eaches.cons rfl ?_ ?_
    · intro W hW hD K hK
      clear hD
      go_simp
      exact hK.out _ _ ⟨_, by first | (simp only [Act.put, List.setIfInBounds_toArray, List.set_cons_zero, List.set_cons_succ]; done) | simp only [Act.put, List.setIfInBounds_toArray, List.set_cons_zero, List.set_cons_succ, *], G.refl _, rfl⟩
    exact Eaches.nil
  intro w1 g1 hH
  clear hH
  refine wpAny_done (by kernel_rfl) ?_ _
  have g01 := G.trans g0 g1
  have S0 : Hid (Rec _ _ _) := Rec.G R0.out (g1)
  clear R0 g0 g1 HB
  have hSS0 := Rec.f3 (Rec.G S0.out (G.refl _))
  have hSS0_0 := hSS0.1
  have hSS0_1 := hSS0.2.1
  have hSS0_2 := hSS0.2.2.1
  have hSS0_3 := hSS0.2.2.2.1
  have hSS0_4 := hSS0.2.2.2.2.1
  have hSS0_5 := hSS0.2.2.2.2.2
  clear hSS0
  go_wp2_with fail
  go_ret3
  exact ⟨rfl, g01⟩

/-- What is left: b of 2 m steps, and whether there are tails. -/
def lv (b m : Nat) (tails : Bool) : Nat := if b = 0 ∧ tails = false then 0 else if b < m then 1 else if b = m ∧ tails = false then 2 else 3
set_option maxRecDepth 100000 in
set_option maxHeartbeats 1000000 in
theorem cut_near_c (w : World) (Q k : Nat) (e P : Int) (tails : Bool) (hQ0 : Q ≠ 0) (hQ : Q < 2 ^ 63) (he1 : -10000000 ≤ e) (he2 : e ≤ 10000000) (hP : P = max (e + blen Q - 53) (-1074)) (hf : P ≤ 971) (hn : P - e = (k : Int) + 1) (hk : k ≤ 62) :
    Calls Tryz.prog 168 #[.agg #[.int .u64 (Q : Int), .int .i64 e, .bool tails]] w fun r w' => r = .returned (.tuple #[.int .u64 (Q / 2 ^ (k + 1) : Nat), .int .i64 P, .int .i64 ((lv (Q % 2 ^ (k + 1)) (2 ^ k) tails : Nat) : Int)]) ∧ G w w' := by
  have HB : Hid (∀ w1, _) := fun w1 => len64_c Q w1 (by omega)
  have hL : Lib.bitLen Q = blen Q := by rw [bitLen_log hQ0 (by omega)]; unfold blen; rw [if_neg hQ0]
  have hLb : blen Q ≤ 63 := by
    have := (Nat.log2_lt hQ0).2 hQ
    unfold blen; rw [if_neg hQ0]; omega
  rw [hL] at HB
  generalize blen Q = L at *
  have hmx : max (e + (L : Int) - 53) (-1074) = P := hP.symm
  have hw1 : IntKind.i64.wrap (e + (L : Int)) = e + (L : Int) := by rw [IntKind.wrap_i64]; omega
  have hw2 : IntKind.i64.wrap (e + (L : Int) - 53) = e + (L : Int) - 53 := by rw [IntKind.wrap_i64]; omega
  have hd : decide (971 < P) = false := decide_eq_false (by omega)
  have hd2 : decide ((63 : Int) < (k : Int) + 1) = false := decide_eq_false (by omega)
  have hP1 : -1074 ≤ P := by omega
  have hQb : (Q : Int) < 18446744073709551616 := by omega
  have hw3 : IntKind.i64.wrap (P - e) = (k : Int) + 1 := by rw [IntKind.wrap_i64]; omega
  have hw4 : IntKind.i64.wrap ((k : Int) + 1) = (k : Int) + 1 := by rw [IntKind.wrap_i64]; omega
  have hw5 : IntKind.i64.wrap (k : Int) = k := by rw [IntKind.wrap_i64]; omega
  obtain ⟨p, hp⟩ : ∃ p, p = 2 ^ (k + 1) := ⟨_, rfl⟩
  obtain ⟨m, hm⟩ : ∃ m, m = 2 ^ k := ⟨_, rfl⟩
  obtain ⟨b, hb⟩ : ∃ b, b = Q % p := ⟨_, rfl⟩
  have hpm : p = 2 * m := by rw [hp, hm, Nat.pow_succ]; omega
  have hm1 : 1 ≤ m := by rw [hm]; exact Nat.two_pow_pos k
  have hm2 : m ≤ 2 ^ 62 := by rw [hm]; exact pow_le hk
  have hbits : bits BinOp.and IntKind.u64 (Q : Int) ((p : Int) - 1) = (b : Int) := by
    rw [show ((p : Int) - 1) = ((p - 1 : Nat) : Int) from by omega, u64_and_nat Q (p - 1) (by omega) (by omega), hp, Nat.and_two_pow_sub_one_eq_mod, hb, hp]
  have hpi : (2 : Int) ^ (k + 1) = (p : Int) := by rw [hp]; push_cast; rfl
  have hmi : (2 : Int) ^ k = (m : Int) := by rw [hm]; push_cast; rfl
  have hp2 : (p : Int) ≤ 9223372036854775808 := by omega
  have hm3 : (m : Int) ≤ 9223372036854775808 := by omega
  have hp3 : (2 : Int) ≤ p := by omega
  have hm4 : (1 : Int) ≤ m := by omega
  have hw6 : IntKind.u64.wrap (p : Int) = p := by rw [IntKind.wrap_u64]; omega
  have hw7 : IntKind.u64.wrap ((p : Int) - 1) = (p : Int) - 1 := by rw [IntKind.wrap_u64]; omega
  have hw8 : IntKind.u64.wrap (m : Int) = m := by rw [IntKind.wrap_u64]; omega
  rw [← hp, ← hm, ← hb]
  obtain ⟨q, hq⟩ : ∃ q, q = Q / p := ⟨_, rfl⟩
  rw [← hq]
  have hQp : (Q : Int) / (p : Int) = (q : Int) := by rw [hq]; push_cast; rfl
  have hQb2 : (q : Int) ≤ (Q : Int) := by have := Nat.div_le_self Q p; omega
  have HM1 : Hid (1 ≤ m) := hm1
  clear hQ0 hQ hL hP hp hm hb hpm hm1 hm2 hq
  go_enter Tryz.func168, Tryz.ntmps168
  go_wp2_with fail
  have g0 : G w (w.alloc (.cells #[.int .u64 (Q : Int), .int .i64 e, .bool tails] 184)) := ((G.refl w).alloc _)
  have R0 : Hid (Rec (w.alloc (.cells #[.int .u64 (Q : Int), .int .i64 e, .bool tails] 184)) (w.heap.size) [.int .u64 (Q : Int), .int .i64 e, .bool tails]) := by
    have h := Rec.new3 w (.int .u64 (Q : Int)) (.int .i64 e) (.bool tails) 184
    exact h
  have hz0 : (w.alloc (.cells #[.int .u64 (Q : Int), .int .i64 e, .bool tails] 184)).heap.size = w.heap.size + 1 := by simp
  generalize (w.alloc (.cells #[.int .u64 (Q : Int), .int .i64 e, .bool tails] 184)) = w0 at *
  refine region_each 9 0 #[true, true, true, true, true, true, true, true, true] [.is (.pointer (some ⟨w.heap.size, 1, none⟩)), .is (.int .i64 e), .is (.pointer (some ⟨w.heap.size, 0, none⟩)), .is (.int .u64 Q), .is (.int .i64 L), .is (.int .i64 (e + L)), .is (.int .i64 (e + L - 53)), .is (.int .i64 P), .is (.int .i64 P)] [some 8, some 9, some 10, some 11, some 12, some 13, some 14, some 15, some 3] (by kernel_rfl) (by kernel_rfl) rfl (by kernel_rfl) (by repeat (first | exact trivial | refine ⟨fun _ _ _ g h => by first | exact h.G g | exact fun w3 g3 => h w3 (G.trans g g3), ?_⟩)) (by kernel_rfl) (by kernel_rfl) ?_
  refine Letters.is ?_
  refine Letters.is ?_
  refine Letters.is ?_
  refine Letters.is ?_
  refine Letters.is ?_
  refine Letters.is ?_
  refine Letters.is ?_
  refine Letters.is ?_
  refine Letters.is ?_
  refine Letters.nil ?_
  intro A hA
  simp only [fillD, Act.put, List.setIfInBounds_toArray, List.set_cons_zero, List.set_cons_succ] at hA
  subst hA
  refine ⟨?_, ?_⟩
  · skip
    refine Eaches.cons rfl ?_ ?_
    · intro W hW hD K hK
      clear hD
      go_simp
      exact hK.out _ _ ⟨_, by first | (simp only [Act.put, List.setIfInBounds_toArray, List.set_cons_zero, List.set_cons_succ]; done) | simp only [Act.put, List.setIfInBounds_toArray, List.set_cons_zero, List.set_cons_succ, *], G.refl _, rfl⟩
    refine Eaches.cons rfl ?_ ?_
    · intro W hW hD K hK
      clear hD
      have hR0 := Rec.f3 (Rec.G R0.out hW)
      have hR0_0 := hR0.1
      have hR0_1 := hR0.2.1
      have hR0_2 := hR0.2.2.1
      clear hR0
      go_simp
      exact hK.out _ _ ⟨_, by first | (simp only [Act.put, List.setIfInBounds_toArray, List.set_cons_zero, List.set_cons_succ]; done) | simp only [Act.put, List.setIfInBounds_toArray, List.set_cons_zero, List.set_cons_succ, *], G.refl _, rfl⟩
    refine Eaches.cons rfl ?_ ?_
    · intro W hW hD K hK
      clear hD
      go_simp
      exact hK.out _ _ ⟨_, by first | (simp only [Act.put, List.setIfInBounds_toArray, List.set_cons_zero, List.set_cons_succ]; done) | simp only [Act.put, List.setIfInBounds_toArray, List.set_cons_zero, List.set_cons_succ, *], G.refl _, rfl⟩
    refine Eaches.cons rfl ?_ ?_
    · intro W hW hD K hK
      clear hD
      have hR0 := Rec.f3 (Rec.G R0.out hW)
      have hR0_0 := hR0.1
      have hR0_1 := hR0.2.1
      have hR0_2 := hR0.2.2.1
      clear hR0
      go_simp
      exact hK.out _ _ ⟨_, by first | (simp only [Act.put, List.setIfInBounds_toArray, List.set_cons_zero, List.set_cons_succ]; done) | simp only [Act.put, List.setIfInBounds_toArray, List.set_cons_zero, List.set_cons_succ, *], G.refl _, rfl⟩
    refine Eaches.cons rfl ?_ ?_
    · intro W hW hD K hK
      clear hD
      go_simp
      go_wp2_with (go_at_call 248; refine Calls.mono (P := Tryz.prog) (HB.out W) ?_; intro e w9 hs; obtain ⟨rfl, g9⟩ := hs)
      exact hK.out _ _ ⟨_, by first | (simp only [Act.put, List.setIfInBounds_toArray, List.set_cons_zero, List.set_cons_succ]; done) | simp only [Act.put, List.setIfInBounds_toArray, List.set_cons_zero, List.set_cons_succ, *], g9, rfl⟩
    refine Eaches.cons rfl ?_ ?_
    · intro W hW hD K hK
      clear hD
      go_simp
      exact hK.out _ _ ⟨_, by first | (simp only [Act.put, List.setIfInBounds_toArray, List.set_cons_zero, List.set_cons_succ]; done) | simp only [Act.put, List.setIfInBounds_toArray, List.set_cons_zero, List.set_cons_succ, *], G.refl _, rfl⟩
    refine Eaches.cons rfl ?_ ?_
    · intro W hW hD K hK
      clear hD
      go_simp
      exact hK.out _ _ ⟨_, by first | (simp only [Act.put, List.setIfInBounds_toArray, List.set_cons_zero, List.set_cons_succ]; done) | simp only [Act.put, List.setIfInBounds_toArray, List.set_cons_zero, List.set_cons_succ, *], G.refl _, rfl⟩
    refine Eaches.cons rfl ?_ ?_
    · intro W hW hD K hK
      clear hD
      go_simp
      exact hK.out _ _ ⟨_, by first | (simp only [Act.put, List.setIfInBounds_toArray, List.set_cons_zero, List.set_cons_succ]; done) | simp only [Act.put, List.setIfInBounds_toArray, List.set_cons_zero, List.set_cons_succ, *], G.refl _, rfl⟩
    refine Eaches.cons rfl ?_ ?_
    · intro W hW hD K hK
      clear hD
      go_simp
      exact hK.out _ _ ⟨_, by first | (simp only [Act.put, List.setIfInBounds_toArray, List.set_cons_zero, List.set_cons_succ]; done) | simp only [Act.put, List.setIfInBounds_toArray, List.set_cons_zero, List.set_cons_succ, *], G.refl _, rfl⟩
    exact Eaches.nil
  intro w1 g1 hH
  clear hH
  refine wpAny_done (by kernel_rfl) ?_ _
  have g01 := G.trans g0 g1
  have S0 : Hid (Rec _ _ _) := Rec.G R0.out (g1)
  clear R0 g0 g1 HB
  have hSS0 := Rec.f3 (Rec.G S0.out (G.refl _))
  have hSS0_0 := hSS0.1
  have hSS0_1 := hSS0.2.1
  have hSS0_2 := hSS0.2.2.1
  have hSS0_3 := hSS0.2.2.2.1
  have hSS0_4 := hSS0.2.2.2.2.1
  have hSS0_5 := hSS0.2.2.2.2.2
  clear hSS0
  go_wp2_with fail
  refine region_each 11 0 #[true, true, true, true, true, true, true, true, true, true, true] [.is (.pointer (some ⟨w.heap.size, 0, none⟩)), .is (.int .u64 Q), .is (.int .i64 (k + 1)), .is (.int .u64 p), .is (.int .u64 (p - 1)), .is (.int .u64 b), .is (.int .i64 (k + 1)), .is (.int .i64 k), .is (.int .u64 m), .is (.int .u64 b), .is (.int .u64 m)] [some 25, some 26, some 27, some 28, some 29, some 30, some 31, some 32, some 33, some 6, some 7] (by kernel_rfl) (by kernel_rfl) rfl (by kernel_rfl) (by repeat (first | exact trivial | refine ⟨fun _ _ _ g h => by first | exact h.G g | exact fun w3 g3 => h w3 (G.trans g g3), ?_⟩)) (by kernel_rfl) (by kernel_rfl) ?_
  refine Letters.is ?_
  refine Letters.is ?_
  refine Letters.is ?_
  refine Letters.is ?_
  refine Letters.is ?_
  refine Letters.is ?_
  refine Letters.is ?_
  refine Letters.is ?_
  refine Letters.is ?_
  refine Letters.is ?_
  refine Letters.is ?_
  refine Letters.nil ?_
  intro A hA
  simp only [fillD, Act.put, List.setIfInBounds_toArray, List.set_cons_zero, List.set_cons_succ] at hA
  subst hA
  refine ⟨?_, ?_⟩
  · skip
    refine Eaches.cons rfl ?_ ?_
    · intro W hW hD K hK
      clear hD
      go_simp
      exact hK.out _ _ ⟨_, by first | (simp only [Act.put, List.setIfInBounds_toArray, List.set_cons_zero, List.set_cons_succ]; done) | simp only [Act.put, List.setIfInBounds_toArray, List.set_cons_zero, List.set_cons_succ, *], G.refl _, rfl⟩
    refine Eaches.cons rfl ?_ ?_
    · intro W hW hD K hK
      clear hD
      have hS0 := Rec.f3 (Rec.G S0.out hW)
      have hS0_0 := hS0.1
      have hS0_1 := hS0.2.1
      have hS0_2 := hS0.2.2.1
      clear hS0
      go_simp
      exact hK.out _ _ ⟨_, by first | (simp only [Act.put, List.setIfInBounds_toArray, List.set_cons_zero, List.set_cons_succ]; done) | simp only [Act.put, List.setIfInBounds_toArray, List.set_cons_zero, List.set_cons_succ, *], G.refl _, rfl⟩
    refine Eaches.cons rfl ?_ ?_
    · intro W hW hD K hK
      clear hD
      go_simp
      exact hK.out _ _ ⟨_, by first | (simp only [Act.put, List.setIfInBounds_toArray, List.set_cons_zero, List.set_cons_succ]; done) | simp only [Act.put, List.setIfInBounds_toArray, List.set_cons_zero, List.set_cons_succ, *], G.refl _, rfl⟩
    refine Eaches.cons rfl ?_ ?_
    · intro W hW hD K hK
      clear hD
      go_simp
      exact hK.out _ _ ⟨_, by first | (simp only [Act.put, List.setIfInBounds_toArray, List.set_cons_zero, List.set_cons_succ]; done) | simp only [Act.put, List.setIfInBounds_toArray, List.set_cons_zero, List.set_cons_succ, *], G.refl _, rfl⟩
    refine Eaches.cons rfl ?_ ?_
    · intro W hW hD K hK
      clear hD
      go_simp
      exact hK.out _ _ ⟨_, by first | (simp only [Act.put, List.setIfInBounds_toArray, List.set_cons_zero, List.set_cons_succ]; done) | simp only [Act.put, List.setIfInBounds_toArray, List.set_cons_zero, List.set_cons_succ, *], G.refl _, rfl⟩
    refine Eaches.cons rfl ?_ ?_
    · intro W hW hD K hK
      clear hD
      go_simp
      exact hK.out _ _ ⟨_, by first | (simp only [Act.put, List.setIfInBounds_toArray, List.set_cons_zero, List.set_cons_succ]; done) | simp only [Act.put, List.setIfInBounds_toArray, List.set_cons_zero, List.set_cons_succ, *], G.refl _, rfl⟩
    refine Eaches.cons rfl ?_ ?_
    · intro W hW hD K hK
      clear hD
      go_simp
      exact hK.out _ _ ⟨_, by first | (simp only [Act.put, List.setIfInBounds_toArray, List.set_cons_zero, List.set_cons_succ]; done) | simp only [Act.put, List.setIfInBounds_toArray, List.set_cons_zero, List.set_cons_succ, *], G.refl _, rfl⟩
    refine Eaches.cons rfl ?_ ?_
    · intro W hW hD K hK
      clear hD
      go_simp
      exact hK.out _ _ ⟨_, by first | (simp only [Act.put, List.setIfInBounds_toArray, List.set_cons_zero, List.set_cons_succ]; done) | simp only [Act.put, List.setIfInBounds_toArray, List.set_cons_zero, List.set_cons_succ, *], G.refl _, rfl⟩
    refine Eaches.cons rfl ?_ ?_
    · intro W hW hD K hK
      clear hD
      go_simp
      exact hK.out _ _ ⟨_, by first | (simp only [Act.put, List.setIfInBounds_toArray, List.set_cons_zero, List.set_cons_succ]; done) | simp only [Act.put, List.setIfInBounds_toArray, List.set_cons_zero, List.set_cons_succ, *], G.refl _, rfl⟩
    refine Eaches.cons rfl ?_ ?_
    · intro W hW hD K hK
      clear hD
      go_simp
      exact hK.out _ _ ⟨_, by first | (simp only [Act.put, List.setIfInBounds_toArray, List.set_cons_zero, List.set_cons_succ]; done) | simp only [Act.put, List.setIfInBounds_toArray, List.set_cons_zero, List.set_cons_succ, *], G.refl _, rfl⟩
    refine Eaches.cons rfl ?_ ?_
    · intro W hW hD K hK
      clear hD
      go_simp
      exact hK.out _ _ ⟨_, by first | (simp only [Act.put, List.setIfInBounds_toArray, List.set_cons_zero, List.set_cons_succ]; done) | simp only [Act.put, List.setIfInBounds_toArray, List.set_cons_zero, List.set_cons_succ, *], G.refl _, rfl⟩
    exact Eaches.nil
  intro w2 g2 hH
  clear hH
  refine wpAny_done (by kernel_rfl) ?_ _
  have g02 := G.trans g01 g2
  have U0 : Hid (Rec _ _ _) := Rec.G S0.out (g2)
  clear S0 hbits hw1 hw2 hw3 hw6 hw7 hw8 hmx hmi hp2 hm3 hp3 hm4 g01 g2
  cases tails
  · by_cases c0 : b = 0
    · have t0 : ((b : Int) == 0) = true := by rw [c0]; rfl
      have HE : Hid (lv b m false = 0) := by show lv b m false = 0; unfold lv; simp [c0]
      clear c0
      have hSU0 := Rec.f3 (Rec.G U0.out (G.refl _))
      have hSU0_0 := hSU0.1
      have hSU0_1 := hSU0.2.1
      have hSU0_2 := hSU0.2.2.1
      have hSU0_3 := hSU0.2.2.2.1
      have hSU0_4 := hSU0.2.2.2.2.1
      have hSU0_5 := hSU0.2.2.2.2.2
      clear hSU0
      repeat (first | go_values | go_skip | go_guarded | go_step | go_upon)
      go_ret3
      exact ⟨by rw [HE.out]; rfl, g02⟩
    · have t0 : ((b : Int) == 0) = false := by simp; exact c0
      by_cases c1 : b < m
      · have t1 : decide (b < m) = true := decide_eq_true c1
        have HE : Hid (lv b m false = 1) := by show lv b m false = 1; unfold lv; simp [c0, c1]
        clear c0 c1
        have hSU0 := Rec.f3 (Rec.G U0.out (G.refl _))
        have hSU0_0 := hSU0.1
        have hSU0_1 := hSU0.2.1
        have hSU0_2 := hSU0.2.2.1
        have hSU0_3 := hSU0.2.2.2.1
        have hSU0_4 := hSU0.2.2.2.2.1
        have hSU0_5 := hSU0.2.2.2.2.2
        clear hSU0
        repeat (first | go_values | go_skip | go_guarded | go_step | go_upon)
        go_ret3
        exact ⟨by rw [HE.out]; rfl, g02⟩
      · have t1 : decide (b < m) = false := decide_eq_false c1
        by_cases c2 : b = m
        · have t2 : ((b : Int) == (m : Int)) = true := by rw [c2]; simp
          have HE : Hid (lv b m false = 2) := by show lv b m false = 2; unfold lv; rw [if_neg (by rintro ⟨h, -⟩; exact c0 h), if_neg c1, if_pos ⟨c2, rfl⟩]
          clear c0 c1 c2
          have hSU0 := Rec.f3 (Rec.G U0.out (G.refl _))
          have hSU0_0 := hSU0.1
          have hSU0_1 := hSU0.2.1
          have hSU0_2 := hSU0.2.2.1
          have hSU0_3 := hSU0.2.2.2.1
          have hSU0_4 := hSU0.2.2.2.2.1
          have hSU0_5 := hSU0.2.2.2.2.2
          clear hSU0
          repeat (first | go_values | go_skip | go_guarded | go_step | go_upon)
          go_ret3
          exact ⟨by rw [HE.out]; rfl, g02⟩
        · have t2 : ((b : Int) == (m : Int)) = false := by simp; omega
          have HE : Hid (lv b m false = 3) := by show lv b m false = 3; unfold lv; simp [c0, c1, c2]
          clear c0 c1 c2
          have hSU0 := Rec.f3 (Rec.G U0.out (G.refl _))
          have hSU0_0 := hSU0.1
          have hSU0_1 := hSU0.2.1
          have hSU0_2 := hSU0.2.2.1
          have hSU0_3 := hSU0.2.2.2.1
          have hSU0_4 := hSU0.2.2.2.2.1
          have hSU0_5 := hSU0.2.2.2.2.2
          clear hSU0
          repeat (first | go_values | go_skip | go_guarded | go_step | go_upon)
          go_ret3
          exact ⟨by rw [HE.out]; rfl, g02⟩
  · by_cases c1 : b < m
    · have t1 : decide (b < m) = true := decide_eq_true c1
      have HE : Hid (lv b m true = 1) := by show lv b m true = 1; unfold lv; simp [c1]
      by_cases c0 : b = 0
      · have t0 : ((b : Int) == 0) = true := by rw [c0]; rfl
        clear c0 c1
        have hSU0 := Rec.f3 (Rec.G U0.out (G.refl _))
        have hSU0_0 := hSU0.1
        have hSU0_1 := hSU0.2.1
        have hSU0_2 := hSU0.2.2.1
        have hSU0_3 := hSU0.2.2.2.1
        have hSU0_4 := hSU0.2.2.2.2.1
        have hSU0_5 := hSU0.2.2.2.2.2
        clear hSU0
        repeat (first | go_values | go_skip | go_guarded | go_step | go_upon)
        go_ret3
        exact ⟨by rw [HE.out]; rfl, g02⟩
      · have t0 : ((b : Int) == 0) = false := by simp; exact c0
        clear c0 c1
        have hSU0 := Rec.f3 (Rec.G U0.out (G.refl _))
        have hSU0_0 := hSU0.1
        have hSU0_1 := hSU0.2.1
        have hSU0_2 := hSU0.2.2.1
        have hSU0_3 := hSU0.2.2.2.1
        have hSU0_4 := hSU0.2.2.2.2.1
        have hSU0_5 := hSU0.2.2.2.2.2
        clear hSU0
        repeat (first | go_values | go_skip | go_guarded | go_step | go_upon)
        go_ret3
        exact ⟨by rw [HE.out]; rfl, g02⟩
    · have t1 : decide (b < m) = false := decide_eq_false c1
      have HE : Hid (lv b m true = 3) := by show lv b m true = 3; unfold lv; simp [c1]
      have t0 : ((b : Int) == 0) = false := by have := HM1.out; simp; omega
      by_cases c2 : b = m
      · have t2 : ((b : Int) == (m : Int)) = true := by rw [c2]; simp
        clear c1 c2
        have hSU0 := Rec.f3 (Rec.G U0.out (G.refl _))
        have hSU0_0 := hSU0.1
        have hSU0_1 := hSU0.2.1
        have hSU0_2 := hSU0.2.2.1
        have hSU0_3 := hSU0.2.2.2.1
        have hSU0_4 := hSU0.2.2.2.2.1
        have hSU0_5 := hSU0.2.2.2.2.2
        clear hSU0
        repeat (first | go_values | go_skip | go_guarded | go_step | go_upon)
        go_ret3
        exact ⟨by rw [HE.out]; rfl, g02⟩
      · have t2 : ((b : Int) == (m : Int)) = false := by simp; omega
        clear c1 c2
        have hSU0 := Rec.f3 (Rec.G U0.out (G.refl _))
        have hSU0_0 := hSU0.1
        have hSU0_1 := hSU0.2.1
        have hSU0_2 := hSU0.2.2.1
        have hSU0_3 := hSU0.2.2.2.1
        have hSU0_4 := hSU0.2.2.2.2.1
        have hSU0_5 := hSU0.2.2.2.2.2
        clear hSU0
        repeat (first | go_values | go_skip | go_guarded | go_step | go_upon)
        go_ret3
        exact ⟨by rw [HE.out]; rfl, g02⟩
end Go.Proofs.YtahfkkkfpcdjaabGreatDoor.EN
