/- What is proved here: contracts of package exact: comparison, powers of two, sums of fractions, over this seat's translation.
What is proved here: contracts of package exact: sums of fractions, over this seat's translation.
What is proved here: contracts of package exact: Add, Sub, Floor, Square, over this seat's translation. -/
import Derived.Test.YtielcpkcfpbanacGreatDoorC20
namespace Go.Proofs.YtielcpkcfpbanacGreatDoor.EN
open Go.ChangeShapes Go.WideShapes Go.ChangeAt Go.RowKit

theorem QIs.top' {w : World} {a : Option Addr} {k c : Nat} {z : Int} {t : Bool} (h : Num w (.slice a k c) z.natAbs) (ht : t = decide (z < 0)) : WholeIs w (.agg #[.bool t, .slice a k c]) z := ⟨a, k, c, by rw [ht], h⟩

theorem sgn_scale (t : Bool) (n k : Nat) : sgn t (n * k) = sgn t n * (k : Int) := by unfold sgn; cases t <;> simp [Int.neg_mul]

set_option maxHeartbeats 1000000 in
theorem qcmp_c (w : World) (v u : Value) (x y : Rat) (K : Nat) (hK : K ≤ 100000) (hx : QIs w v x) (hy : QIs w u y) (bx : QB x K) (by_ : QB y K) :
    Calls Tryz.prog 57 #[v, u] w fun e w' => e = .returned (.int .i64 (x.num * y.den - y.num * x.den).sign) ∧ G w w' := by
  have HBX : Hid (∀ w1, G w w1 → _) := fun w1 g => bar_c w1 v x (hx.G g)
  have HBY : Hid (∀ w1, G w w1 → _) := fun w1 g => bar_c w1 u y (hy.G g)
  obtain ⟨a, k, c, a', k', c', rfl, hx1, hx2⟩ := hx
  obtain ⟨b, j, e, b', j', e', rfl, hy1, hy2⟩ := hy
  obtain ⟨s, hs⟩ : ∃ s, s = decide (x.num < 0) := ⟨_, rfl⟩
  obtain ⟨t, ht⟩ : ∃ t, t = decide (y.num < 0) := ⟨_, rfl⟩
  have hsx : sgn s x.num.natAbs = x.num := by rw [hs]; exact sgn_abs _
  have hsy : sgn t y.num.natAbs = y.num := by rw [ht]; exact sgn_abs _
  have HT1 : Hid (∀ w1 v1, G w w1 → Num w1 v1 y.den → Calls Tryz.prog 102 #[.agg #[.bool s, .slice a k c], v1] w1 (RetWhole w1 (x.num * y.den))) := fun w1 v1 g h => by
    have h := wtimes_c w1 (.agg #[.bool s, .slice a k c]) v1 s _ _ K (by omega) ⟨a, k, c, rfl, hx1.G g⟩ h bx.1 by_.2
    rw [hsx] at h; exact h
  have HT2 : Hid (∀ w1 v1, G w w1 → Num w1 v1 x.den → Calls Tryz.prog 102 #[.agg #[.bool t, .slice b j e], v1] w1 (RetWhole w1 (y.num * x.den))) := fun w1 v1 g h => by
    have h := wtimes_c w1 (.agg #[.bool t, .slice b j e]) v1 t _ _ K (by omega) ⟨b, j, e, rfl, hy1.G g⟩ h by_.1 bx.2
    rw [hsy] at h; exact h
  have q1 : (x.num * y.den).natAbs < 2 ^ (64 * (K + K)) := by rw [Int.natAbs_mul]; exact lt_mul_pow bx.1 by_.2
  have q2 : (y.num * x.den).natAbs < 2 ^ (64 * (K + K)) := by rw [Int.natAbs_mul]; exact lt_mul_pow by_.1 bx.2
  rw [← hs] at HBX
  rw [← ht] at HBY
  rw [← hs, ← ht]
  obtain ⟨p, hp⟩ : ∃ p, p = x.den := ⟨_, rfl⟩
  obtain ⟨r, hr⟩ : ∃ r, r = y.den := ⟨_, rfl⟩
  rw [← hp] at HBX HT2 q2 ⊢
  rw [← hr] at HBY HT1 q1 ⊢
  generalize x.num * (r : Int) = A at *
  generalize y.num * (p : Int) = B at *
  have HM : Hid (∀ w1 v1 v2, WholeIs w1 v1 A → WholeIs w1 v2 B → Calls Tryz.prog 103 #[v1, v2] w1 (RetWhole w1 (A - B))) := fun w1 v1 v2 h1 h2 => by
    have h := wminus_c w1 v1 v2 _ _ _ _ (K + K) (by omega) h1 h2 q1 q2
    rw [sgn_abs, sgn_abs] at h; exact h
  have HS : Hid (∀ w1 v1, WholeIs w1 v1 (A - B) → _) := fun w1 v1 h => wsign_c w1 v1 (A - B) h
  generalize A - B = z at *
  generalize z.sign = sz at *
  clear hp hr q1 q2 hsx hsy hs ht bx by_ hx1 hx2 hy1 hy2
  go_enter Tryz.func57, Tryz.ntmps57
  go_wp2_with fail
  have g0 : G w (World.alloc (w.alloc (.cells #[.bool s, .slice a k c, .slice a' k' c'] 96)) (.cells #[.bool t, .slice b j e, .slice b' j' e'] 96)) := (((G.refl w).alloc _).alloc _)
  have R0 : Hid (Rec (World.alloc (w.alloc (.cells #[.bool s, .slice a k c, .slice a' k' c'] 96)) (.cells #[.bool t, .slice b j e, .slice b' j' e'] 96)) (w.heap.size) [.bool s, .slice a k c, .slice a' k' c']) := by
    have h := Rec.new3 w (.bool s) (.slice a k c) (.slice a' k' c') 96
    exact (Rec.G h ((G.refl (w.alloc (.cells #[.bool s, .slice a k c, .slice a' k' c'] 96))).alloc (.cells #[.bool t, .slice b j e, .slice b' j' e'] 96)))
  have R1 : Hid (Rec (World.alloc (w.alloc (.cells #[.bool s, .slice a k c, .slice a' k' c'] 96)) (.cells #[.bool t, .slice b j e, .slice b' j' e'] 96)) (w.heap.size + 1) [.bool t, .slice b j e, .slice b' j' e']) := by
    have h := Rec.new3 (w.alloc (.cells #[.bool s, .slice a k c, .slice a' k' c'] 96)) (.bool t) (.slice b j e) (.slice b' j' e') 96
    rw [show (w.alloc (.cells #[.bool s, .slice a k c, .slice a' k' c'] 96)).heap.size = w.heap.size + 1 from by simp] at h
    exact h
  have hz0 : (World.alloc (w.alloc (.cells #[.bool s, .slice a k c, .slice a' k' c'] 96)) (.cells #[.bool t, .slice b j e, .slice b' j' e'] 96)).heap.size = w.heap.size + 2 := by simp
  generalize (World.alloc (w.alloc (.cells #[.bool s, .slice a k c, .slice a' k' c'] 96)) (.cells #[.bool t, .slice b j e, .slice b' j' e'] 96)) = w0 at *
  refine region_each 13 0 #[true, true, true, true, true, true, true, true, true, true, true, true, true] [.is (.pointer (some ⟨w.heap.size, 0, none⟩)), .is (.agg #[.bool s, .slice a k c]), .is (.agg #[.bool t, .slice b j e, .slice b' j' e']), .any (fun v w' => Num w' v (r)), .any (fun v w' => WholeIs w' v (A)), .is (.pointer (some ⟨w.heap.size + 1, 0, none⟩)), .is (.agg #[.bool t, .slice b j e]), .is (.agg #[.bool s, .slice a k c, .slice a' k' c']), .any (fun v w' => Num w' v (p)), .any (fun v w' => WholeIs w' v (B)), .any (fun v w' => WholeIs w' v (z)), .is (.int .i64 sz), .is (.int .i64 sz)] [some 5, some 6, some 7, some 8, some 9, some 10, some 11, some 12, some 13, some 14, some 15, some 16, some 4] (by kernel_rfl) (by kernel_rfl) rfl (by kernel_rfl) (by repeat (first | exact trivial | refine ⟨fun _ _ _ g h => by first | exact h.G g | exact fun w3 g3 => h w3 (G.trans g g3), ?_⟩)) (by kernel_rfl) (by kernel_rfl) ?_
  refine Letters.is ?_
  refine Letters.is ?_
  refine Letters.is ?_
  refine Letters.any fun v3 => ?_
  refine Letters.any fun v4 => ?_
  refine Letters.is ?_
  refine Letters.is ?_
  refine Letters.is ?_
  refine Letters.any fun v8 => ?_
  refine Letters.any fun v9 => ?_
  refine Letters.any fun v10 => ?_
  refine Letters.is ?_
  refine Letters.is ?_
  refine Letters.nil ?_
  intro A hA
  simp only [fillD, Act.put, List.setIfInBounds_toArray, List.set_cons_zero, List.set_cons_succ] at hA
  subst hA
  refine ⟨?_, ?_⟩
  · skip
    refine Eaches.cons rfl ?_ ?_
    · intro W hW hD K hK
      clear hD
      go_simp
      exact hK.out _ _ ⟨_, by first | (simp only [Act.put, List.setIfInBounds_toArray, List.set_cons_zero, List.set_cons_succ]; done) | simp only [Act.put, List.setIfInBounds_toArray, List.set_cons_zero, List.set_cons_succ, *], G.refl _, rfl⟩
    refine Eaches.cons rfl ?_ ?_
    · intro W hW hD K hK
      clear hD
      have hR0 := Rec.f3 (Rec.G R0.out hW)
      have hR0_0 := hR0.1
      have hR0_1 := hR0.2.1
      have hR0_2 := hR0.2.2.1
      clear hR0
      have hR1 := Rec.f3 (Rec.G R1.out hW)
      have hR1_0 := hR1.1
      have hR1_1 := hR1.2.1
      have hR1_2 := hR1.2.2.1
      clear hR1
      go_simp
      exact hK.out _ _ ⟨_, by first | (simp only [Act.put, List.setIfInBounds_toArray, List.set_cons_zero, List.set_cons_succ]; done) | simp only [Act.put, List.setIfInBounds_toArray, List.set_cons_zero, List.set_cons_succ, *], G.refl _, rfl⟩
    refine Eaches.cons rfl ?_ ?_
    · intro W hW hD K hK
      clear hD
      have hR0 := Rec.f3 (Rec.G R0.out hW)
      have hR0_0 := hR0.1
      have hR0_1 := hR0.2.1
      have hR0_2 := hR0.2.2.1
      clear hR0
      have hR1 := Rec.f3 (Rec.G R1.out hW)
      have hR1_0 := hR1.1
      have hR1_1 := hR1.2.1
      have hR1_2 := hR1.2.2.1
      clear hR1
      go_simp
      exact hK.out _ _ ⟨_, by first | (simp only [Act.put, List.setIfInBounds_toArray, List.set_cons_zero, List.set_cons_succ]; done) | simp only [Act.put, List.setIfInBounds_toArray, List.set_cons_zero, List.set_cons_succ, *], G.refl _, rfl⟩
    refine Eaches.cons rfl ?_ ?_
    · intro W hW hD K hK
      clear hD
      go_simp
      go_wp2_with (go_at_call 97; refine Calls.mono (P := Tryz.prog) (HBY.out W (G.trans g0 hW)) ?_; intro e w9 hs; obtain ⟨u9, rfl, g9, hn9⟩ := hs)
      exact hK.out _ _ ⟨_, by first | (simp only [Act.put, List.setIfInBounds_toArray, List.set_cons_zero, List.set_cons_succ]; done) | simp only [Act.put, List.setIfInBounds_toArray, List.set_cons_zero, List.set_cons_succ, *], g9, hn9⟩
    refine Eaches.cons rfl ?_ ?_
    · intro W hW hD K hK
      have h3 := Deps.get (v := v3) 3 hD rfl rfl (by kernel_rfl)
      clear hD
      go_simp
      go_wp2_with (go_at_call 102; refine Calls.mono (P := Tryz.prog) (HT1.out W v3 (G.trans g0 hW) h3) ?_; intro e w9 hs; obtain ⟨u9, rfl, g9, hn9⟩ := hs)
      exact hK.out _ _ ⟨_, by first | (simp only [Act.put, List.setIfInBounds_toArray, List.set_cons_zero, List.set_cons_succ]; done) | simp only [Act.put, List.setIfInBounds_toArray, List.set_cons_zero, List.set_cons_succ, *], g9, hn9⟩
    refine Eaches.cons rfl ?_ ?_
    · intro W hW hD K hK
      clear hD
      go_simp
      exact hK.out _ _ ⟨_, by first | (simp only [Act.put, List.setIfInBounds_toArray, List.set_cons_zero, List.set_cons_succ]; done) | simp only [Act.put, List.setIfInBounds_toArray, List.set_cons_zero, List.set_cons_succ, *], G.refl _, rfl⟩
    refine Eaches.cons rfl ?_ ?_
    · intro W hW hD K hK
      clear hD
      have hR0 := Rec.f3 (Rec.G R0.out hW)
      have hR0_0 := hR0.1
      have hR0_1 := hR0.2.1
      have hR0_2 := hR0.2.2.1
      clear hR0
      have hR1 := Rec.f3 (Rec.G R1.out hW)
      have hR1_0 := hR1.1
      have hR1_1 := hR1.2.1
      have hR1_2 := hR1.2.2.1
      clear hR1
      go_simp
      exact hK.out _ _ ⟨_, by first | (simp only [Act.put, List.setIfInBounds_toArray, List.set_cons_zero, List.set_cons_succ]; done) | simp only [Act.put, List.setIfInBounds_toArray, List.set_cons_zero, List.set_cons_succ, *], G.refl _, rfl⟩
    refine Eaches.cons rfl ?_ ?_
    · intro W hW hD K hK
      clear hD
      have hR0 := Rec.f3 (Rec.G R0.out hW)
      have hR0_0 := hR0.1
      have hR0_1 := hR0.2.1
      have hR0_2 := hR0.2.2.1
      clear hR0
      have hR1 := Rec.f3 (Rec.G R1.out hW)
      have hR1_0 := hR1.1
      have hR1_1 := hR1.2.1
      have hR1_2 := hR1.2.2.1
      clear hR1
      go_simp
      exact hK.out _ _ ⟨_, by first | (simp only [Act.put, List.setIfInBounds_toArray, List.set_cons_zero, List.set_cons_succ]; done) | simp only [Act.put, List.setIfInBounds_toArray, List.set_cons_zero, List.set_cons_succ, *], G.refl _, rfl⟩
    refine Eaches.cons rfl ?_ ?_
    · intro W hW hD K hK
      clear hD
      go_simp
      go_wp2_with (go_at_call 97; refine Calls.mono (P := Tryz.prog) (HBX.out W (G.trans g0 hW)) ?_; intro e w9 hs; obtain ⟨u9, rfl, g9, hn9⟩ := hs)
      exact hK.out _ _ ⟨_, by first | (simp only [Act.put, List.setIfInBounds_toArray, List.set_cons_zero, List.set_cons_succ]; done) | simp only [Act.put, List.setIfInBounds_toArray, List.set_cons_zero, List.set_cons_succ, *], g9, hn9⟩
    refine Eaches.cons rfl ?_ ?_
    · intro W hW hD K hK
      have h8 := Deps.get (v := v8) 8 hD rfl rfl (by kernel_rfl)
      clear hD
      go_simp
      go_wp2_with (go_at_call 102; refine Calls.mono (P := Tryz.prog) (HT2.out W v8 (G.trans g0 hW) h8) ?_; intro e w9 hs; obtain ⟨u9, rfl, g9, hn9⟩ := hs)
      exact hK.out _ _ ⟨_, by first | (simp only [Act.put, List.setIfInBounds_toArray, List.set_cons_zero, List.set_cons_succ]; done) | simp only [Act.put, List.setIfInBounds_toArray, List.set_cons_zero, List.set_cons_succ, *], g9, hn9⟩
    refine Eaches.cons rfl ?_ ?_
    · intro W hW hD K hK
      have h4 := Deps.get (v := v4) 4 hD rfl rfl (by kernel_rfl)
      have h9 := Deps.get (v := v9) 9 hD rfl rfl (by kernel_rfl)
      clear hD
      go_simp
      go_wp2_with (go_at_call 103; refine Calls.mono (P := Tryz.prog) (HM.out W v4 v9 h4 h9) ?_; intro e w9 hs; obtain ⟨u9, rfl, g9, hn9⟩ := hs)
      exact hK.out _ _ ⟨_, by first | (simp only [Act.put, List.setIfInBounds_toArray, List.set_cons_zero, List.set_cons_succ]; done) | simp only [Act.put, List.setIfInBounds_toArray, List.set_cons_zero, List.set_cons_succ, *], g9, hn9⟩
    refine Eaches.cons rfl ?_ ?_
    · intro W hW hD K hK
      have h10 := Deps.get (v := v10) 10 hD rfl rfl (by kernel_rfl)
      clear hD
      go_simp
      go_wp2_with (go_at_call 104; refine Calls.mono (P := Tryz.prog) (HS.out W v10 h10) ?_; intro e w9 hs; obtain ⟨rfl, g9⟩ := hs)
      exact hK.out _ _ ⟨_, by first | (simp only [Act.put, List.setIfInBounds_toArray, List.set_cons_zero, List.set_cons_succ]; done) | simp only [Act.put, List.setIfInBounds_toArray, List.set_cons_zero, List.set_cons_succ, *], g9, rfl⟩
    refine Eaches.cons rfl ?_ ?_
    · intro W hW hD K hK
      clear hD
      go_simp
      exact hK.out _ _ ⟨_, by first | (simp only [Act.put, List.setIfInBounds_toArray, List.set_cons_zero, List.set_cons_succ]; done) | simp only [Act.put, List.setIfInBounds_toArray, List.set_cons_zero, List.set_cons_succ, *], G.refl _, rfl⟩
    exact Eaches.nil
  intro w1 g1 hH
  clear hH
  refine wpAny_done (by kernel_rfl) ?_ _
  clear HM HS HT1 HT2 HBX HBY R0 R1
  go_wp2_with fail
  go_ret
  exact ⟨rfl, G.trans g0 g1⟩

/-- A whole number times a power of two. -/
def mk2 (m e : Int) : Rat := mkRat (m * ((2 ^ e.toNat : Nat) : Int)) (2 ^ (-e).toNat)

set_option maxHeartbeats 1000000 in
theorem shifted_c (w : World) (m e : Int) (h1 : -9223372036854775808 ≤ m) (h2 : m < 9223372036854775808) (h3 : -1000000 ≤ e) (h4 : e ≤ 1000000) (hm : m = 0 ∨ m % 2 = 1) :
    Calls Tryz.prog 140 #[.int .i64 m, .int .i64 e] w (RetQ w (mk2 m e)) := by
  have HW : Hid (∀ w1, _) := fun w1 => wholeOf_c w1 m h1 h2
  have hmb : m.natAbs < 2 ^ (64 * 1) := by omega
  by_cases he : e < 0
  · obtain ⟨n, rfl⟩ : ∃ n : Nat, e = -(n : Int) := ⟨e.natAbs, by omega⟩
    have hmk : mk2 m (-(n : Int)) = mkRat m (2 ^ n) := by
      unfold mk2
      rw [show (-(n : Int)).toNat = 0 from by omega, show (- -(n : Int)).toNat = n from by omega]
      simp
    rw [hmk]
    obtain ⟨K, hK⟩ : ∃ K, K = 15626 := ⟨_, rfl⟩
    have hpw : 2 ^ n < 2 ^ (64 * K) := Nat.pow_lt_pow_right (by omega) (by omega)
    have HL : Hid (∀ w1 v1, Num w1 v1 1 → Calls Tryz.prog 144 #[v1, .int .i64 (n : Int)] w1 (RetNum w1 (2 ^ n))) := fun w1 v1 hv => by
      have h := left_c w1 v1 1 n 1 (by omega) (by omega) hv (by omega)
      rw [Nat.one_mul] at h; exact h
    have hcop : m ≠ 0 → Nat.gcd m.natAbs (2 ^ n) = 1 := fun h0 => by
      have h5 : m.natAbs = 2 * (m.natAbs / 2) + 1 := by omega
      rw [h5]; exact odd_cop _ _
    have HF : Hid (∀ w1 v1 v2, WholeIs w1 v1 m → Num w1 v2 (2 ^ n) → _) := fun w1 v1 v2 k1 k2 => fraction_c w1 v1 v2 m (2 ^ n) K (mkRat m (2 ^ n)) k1 k2 (Nat.two_pow_pos n) hpw hcop rfl
    have hd : decide (-(n : Int) < 0) = true := decide_eq_true he
    have hnn : - -(n : Int) = n := by omega
    have hwn : IntKind.i64.wrap (n : Int) = n := by rw [IntKind.wrap_i64]; omega
    have hb : (n : Int) ≤ 1000000 := by omega
    have hn1 : (1 : Int) ≤ n := by omega
    generalize -(n : Int) = e at *
    generalize mkRat m (2 ^ n) = q at *
    generalize 2 ^ n = P at *
    clear hmk hpw hcop hmb hm h1 h2 he hK
    go_enter Tryz.func140, Tryz.ntmps140
    go_wp2_with fail
    have g0 : G w (w.alloc (.cells #[.bool false, .slice none 0 0, .slice none 0 0] 96)) := ((G.refl w).alloc _)
    have R0 : Hid (Rec (w.alloc (.cells #[.bool false, .slice none 0 0, .slice none 0 0] 96)) (w.heap.size) [.bool false, .slice none 0 0, .slice none 0 0]) := by
      have h := Rec.new3 w (.bool false) (.slice none 0 0) (.slice none 0 0) 96
      exact h
    have hz0 : (w.alloc (.cells #[.bool false, .slice none 0 0, .slice none 0 0] 96)).heap.size = w.heap.size + 1 := by simp
    generalize (w.alloc (.cells #[.bool false, .slice none 0 0, .slice none 0 0] 96)) = w0 at *
    refine Calls.mono (P := Tryz.prog) (HW.out w0) ?_
    intro e2 w1 hs
    obtain ⟨v1, rfl, g1, ⟨a, k, c, rfl, k1⟩⟩ := hs
    obtain ⟨s, hs⟩ : ∃ s, s = decide (m < 0) := ⟨_, rfl⟩
    have K1 : Hid (Num w1 (.slice a k c) m.natAbs) := k1
    have HSS : Hid (s = decide (m < 0)) := hs
    rw [← hs]
    clear k1 hs HW
    go_wp2_with fail
    have S0 : Hid (Rec _ _ _) := Rec.G R0.out (g1)
    have g01 := G.trans g0 g1
    clear R0 g0 g1
    have g2 : G w1 (w1.alloc (.cells #[.bool s, .slice a k c] 94)) := ((G.refl w1).alloc _)
    have R0 : Hid (Rec (w1.alloc (.cells #[.bool s, .slice a k c] 94)) (w1.heap.size) [.bool s, .slice a k c]) := by
      have h := Rec.new2 w1 (.bool s) (.slice a k c) 94
      exact h
    have hz2 : (w1.alloc (.cells #[.bool s, .slice a k c] 94)).heap.size = w1.heap.size + 1 := by simp
    generalize (w1.alloc (.cells #[.bool s, .slice a k c] 94)) = w2 at *
    refine region_each 6 1 #[true, true, true, true, true, true, false] [.is (.agg #[.bool s, .slice a k c]), .any (fun v w' => Num w' v (1)), .is (.int .i64 e), .is (.int .i64 n), .any (fun v w' => Num w' v (P)), .any (fun v w' => QIs w' v (q))] [some 10, some 11, some 12, some 13, some 14, some 15] (by kernel_rfl) (by kernel_rfl) rfl (by kernel_rfl) (by repeat (first | exact trivial | refine ⟨fun _ _ _ g h => by first | exact h.G g | exact fun w3 g3 => h w3 (G.trans g g3), ?_⟩)) (by kernel_rfl) (by kernel_rfl) ?_
    refine Letters.is ?_
    refine Letters.any fun v1 => ?_
    refine Letters.is ?_
    refine Letters.is ?_
    refine Letters.any fun v4 => ?_
    refine Letters.any fun v5 => ?_
    refine Letters.nil ?_
    intro A hA
    simp only [fillD, Act.put, List.setIfInBounds_toArray, List.set_cons_zero, List.set_cons_succ] at hA
    subst hA
    refine ⟨?_, ?_⟩
    · skip
      refine Eaches.cons rfl ?_ ?_
      · intro W hW hD K hK
        clear hD
        have hR0 := Rec.f2 (Rec.G R0.out hW)
        have hR0_0 := hR0.1
        have hR0_1 := hR0.2.1
        clear hR0
        go_simp
        exact hK.out _ _ ⟨_, by first | (simp only [Act.put, List.setIfInBounds_toArray, List.set_cons_zero, List.set_cons_succ]; done) | simp only [Act.put, List.setIfInBounds_toArray, List.set_cons_zero, List.set_cons_succ, *], G.refl _, rfl⟩
      refine Eaches.cons rfl ?_ ?_
      · intro W hW hD K hK
        clear hD
        go_simp
        exact hK.out _ _ ⟨_, by first | (simp only [Act.put, List.setIfInBounds_toArray, List.set_cons_zero, List.set_cons_succ]; done) | simp only [Act.put, List.setIfInBounds_toArray, List.set_cons_zero, List.set_cons_succ, *], (G.refl _).alloc _, num_one (by decide) (by decide)⟩
      refine Eaches.cons rfl ?_ ?_
      · intro W hW hD K hK
        clear hD
        go_simp
        exact hK.out _ _ ⟨_, by first | (simp only [Act.put, List.setIfInBounds_toArray, List.set_cons_zero, List.set_cons_succ]; done) | simp only [Act.put, List.setIfInBounds_toArray, List.set_cons_zero, List.set_cons_succ, *], G.refl _, rfl⟩
      refine Eaches.cons rfl ?_ ?_
      · intro W hW hD K hK
        clear hD
        go_simp
        exact hK.out _ _ ⟨_, by first | (simp only [Act.put, List.setIfInBounds_toArray, List.set_cons_zero, List.set_cons_succ]; done) | simp only [Act.put, List.setIfInBounds_toArray, List.set_cons_zero, List.set_cons_succ, *], G.refl _, rfl⟩
      refine Eaches.cons rfl ?_ ?_
      · intro W hW hD K hK
        have h1 := Deps.get (v := v1) 1 hD rfl rfl (by kernel_rfl)
        clear hD
        go_simp
        go_wp2_with (go_at_call 144; refine Calls.mono (P := Tryz.prog) (HL.out W v1 h1) ?_; intro e w9 hs; obtain ⟨u9, rfl, g9, hn9⟩ := hs)
        exact hK.out _ _ ⟨_, by first | (simp only [Act.put, List.setIfInBounds_toArray, List.set_cons_zero, List.set_cons_succ]; done) | simp only [Act.put, List.setIfInBounds_toArray, List.set_cons_zero, List.set_cons_succ, *], g9, hn9⟩
      refine Eaches.cons rfl ?_ ?_
      · intro W hW hD K hK
        have h4 := Deps.get (v := v4) 4 hD rfl rfl (by kernel_rfl)
        clear hD
        go_simp
        go_wp2_with (go_at_call 100; refine Calls.mono (P := Tryz.prog) (HF.out W (.agg #[.bool s, .slice a k c]) v4 (QIs.top' (K1.out.G (G.trans g2 hW)) HSS.out) h4) ?_; intro e w9 hs; obtain ⟨u9, rfl, g9, hn9⟩ := hs)
        exact hK.out _ _ ⟨_, by first | (simp only [Act.put, List.setIfInBounds_toArray, List.set_cons_zero, List.set_cons_succ]; done) | simp only [Act.put, List.setIfInBounds_toArray, List.set_cons_zero, List.set_cons_succ, *], g9, hn9⟩
      exact Eaches.nil
    intro w3 g3 hH
    have h5 := Helds.get (v := v5) 5 hH rfl rfl
    clear hH
    clear HL HF R0 K1 HSS
    have g13 := G.trans g2 g3
    clear g2 g3
    obtain ⟨a8, k8, c8, a9, k9, c9, rfl, hm8, hm9⟩ := h5
    have HN8 : Hid (Num w3 (.slice a8 k8 c8) (q).num.natAbs) := hm8
    have HN9 : Hid (Num w3 (.slice a9 k9 c9) (lowOf (q).den)) := hm9
    obtain ⟨t9, ht9⟩ : ∃ t, t = decide ((q).num < 0) := ⟨_, rfl⟩
    rw [← ht9]
    have HT9 : Hid (t9 = decide ((q).num < 0)) := ht9
    clear hm8 hm9 ht9
    have hS := Rec.f3 (Rec.G S0.out (g13))
    have hS_0 := hS.1
    have hS_1 := hS.2.1
    have hS_2 := hS.2.2.1
    have hS_3 := hS.2.2.2.1
    have hS_4 := hS.2.2.2.2.1
    have hS_5 := hS.2.2.2.2.2
    clear hS
    refine wpAny_ready (rs := [6]) (by kernel_rfl) (by simp) ?_
    refine AllReady.cons rfl (fun K hK => ?_) AllReady.nil
    go_simp
    refine hK _ _ ?_
    clear hK K hS_0 hS_1 hS_2 hS_3 hS_4 hS_5
    refine wpAny_done (by kernel_rfl) ?_ _
    have HN8' : Num _ _ _ := num_set3 (u1 := .bool t9) (u2 := .slice a8 k8 c8) (u3 := .slice a9 k9 c9) HN8.out (Rec.G S0.out (g13)) trivial trivial trivial
    have HN9' : Num _ _ _ := num_set3 (u1 := .bool t9) (u2 := .slice a8 k8 c8) (u3 := .slice a9 k9 c9) HN9.out (Rec.G S0.out (g13)) trivial trivial trivial
    go_wp2_with fail
    have hT : Hid (Rec (World.setCell (World.setCell (World.setCell w3 ⟨w.heap.size, 0, none⟩ (.bool t9)) ⟨w.heap.size, 1, none⟩ (.slice a8 k8 c8)) ⟨w.heap.size, 2, none⟩ (.slice a9 k9 c9)) (w.heap.size) [.bool t9, .slice a8 k8 c8, .slice a9 k9 c9]) := Rec.set3 (Rec.G S0.out (g13))
    have g9 := Rec.g3 (b := w.heap.size) (u := .bool t9) (v := .slice a8 k8 c8) (x := .slice a9 k9 c9) (G.trans g01 g13) (by omega)
    generalize (World.setCell (World.setCell (World.setCell w3 ⟨w.heap.size, 0, none⟩ (.bool t9)) ⟨w.heap.size, 1, none⟩ (.slice a8 k8 c8)) ⟨w.heap.size, 2, none⟩ (.slice a9 k9 c9)) = w9 at *
    have hF := Rec.f3 (Rec.G hT.out ((G.refl _)))
    have hF_0 := hF.1
    have hF_1 := hF.2.1
    have hF_2 := hF.2.2.1
    have hF_3 := hF.2.2.2.1
    have hF_4 := hF.2.2.2.2.1
    have hF_5 := hF.2.2.2.2.2
    clear hF
    refine bodyPost_ret (v := .agg #[.bool t9, .slice a8 k8 c8, .slice a9 k9 c9]) (by simp [results, Tryz.results140, go_sem, *]) rfl ?_
    exact ⟨_, rfl, g9, a8, k8, c8, a9, k9, c9, by rw [← HT9.out], HN8', HN9'⟩
  · obtain ⟨n, rfl⟩ : ∃ n : Nat, e = (n : Int) := ⟨e.natAbs, by omega⟩
    have hmk : mk2 m (n : Int) = ((m * ((2 ^ n : Nat) : Int) : Int) : Rat) := by
      unfold mk2
      rw [show (-(n : Int)).toNat = 0 from by omega, show (n : Int).toNat = n from by omega, mkRat_one]
    rw [hmk]
    obtain ⟨t, ht⟩ : ∃ t, t = decide (m < 0) := ⟨_, rfl⟩
    have HL : Hid (∀ w1 v1, Num w1 v1 m.natAbs → _) := fun w1 v1 hv => left_c w1 v1 m.natAbs n 1 (by omega) (by omega) hv hmb
    have hsg : sgn t (m.natAbs * 2 ^ n) = m * ((2 ^ n : Nat) : Int) := by
      have h := sgn_abs m
      rw [← ht] at h
      rw [sgn_scale, h]
    have HS : Hid (∀ w1 v1, Num w1 v1 (m.natAbs * 2 ^ n) → Calls Tryz.prog 101 #[.bool t, v1] w1 (RetWhole w1 (m * ((2 ^ n : Nat) : Int)))) := fun w1 v1 hv => by
      have h := signed_c w1 v1 t _ hv
      rw [hsg] at h; exact h
    have HF : Hid (∀ w1 v1 v2, WholeIs w1 v1 (m * ((2 ^ n : Nat) : Int)) → Num w1 v2 1 → _) := fun w1 v1 v2 k1 k2 => fraction_c w1 v1 v2 (m * ((2 ^ n : Nat) : Int)) 1 1 ((m * ((2 ^ n : Nat) : Int) : Int) : Rat) k1 k2 (by omega) (by omega) (fun _ => Nat.gcd_one_right _) (mkRat_one _)
    have hd : decide ((n : Int) < 0) = false := by simp
    have hb : (n : Int) ≤ 1000000 := by omega
    generalize ((m * ((2 ^ n : Nat) : Int) : Int) : Rat) = q at *
    generalize m * ((2 ^ n : Nat) : Int) = z at *
    generalize m.natAbs * 2 ^ n = P at *
    have HTT : Hid (t = decide (m < 0)) := ht
    clear hmk hmb hm h1 h2 he h3 h4 hsg ht
    go_enter Tryz.func140, Tryz.ntmps140
    go_wp2_with fail
    have g0 : G w (w.alloc (.cells #[.bool false, .slice none 0 0, .slice none 0 0] 96)) := ((G.refl w).alloc _)
    have R0 : Hid (Rec (w.alloc (.cells #[.bool false, .slice none 0 0, .slice none 0 0] 96)) (w.heap.size) [.bool false, .slice none 0 0, .slice none 0 0]) := by
      have h := Rec.new3 w (.bool false) (.slice none 0 0) (.slice none 0 0) 96
      exact h
    have hz0 : (w.alloc (.cells #[.bool false, .slice none 0 0, .slice none 0 0] 96)).heap.size = w.heap.size + 1 := by simp
    generalize (w.alloc (.cells #[.bool false, .slice none 0 0, .slice none 0 0] 96)) = w0 at *
    refine Calls.mono (P := Tryz.prog) (HW.out w0) ?_
    intro e2 w1 hs
    obtain ⟨v1, rfl, g1, ⟨a, k, c, rfl, k1⟩⟩ := hs
    have K1 : Hid (Num w1 (.slice a k c) m.natAbs) := k1
    rw [← HTT.out]
    clear k1 HW HTT
    go_wp2_with fail
    have S0 : Hid (Rec _ _ _) := Rec.G R0.out (g1)
    have g01 := G.trans g0 g1
    clear R0 g0 g1
    have g2 : G w1 (w1.alloc (.cells #[.bool t, .slice a k c] 94)) := ((G.refl w1).alloc _)
    have R0 : Hid (Rec (w1.alloc (.cells #[.bool t, .slice a k c] 94)) (w1.heap.size) [.bool t, .slice a k c]) := by
      have h := Rec.new2 w1 (.bool t) (.slice a k c) 94
      exact h
    have hz2 : (w1.alloc (.cells #[.bool t, .slice a k c] 94)).heap.size = w1.heap.size + 1 := by simp
    generalize (w1.alloc (.cells #[.bool t, .slice a k c] 94)) = w2 at *
    refine region_each 9 1 #[true, true, true, true, true, true, true, true, true, false] [.is (.pointer (some ⟨w1.heap.size, 0, none⟩)), .is (.bool t), .is (.pointer (some ⟨w1.heap.size, 1, none⟩)), .is (.slice a k c), .is (.int .i64 n), .any (fun v w' => Num w' v (P)), .any (fun v w' => WholeIs w' v (z)), .any (fun v w' => Num w' v (1)), .any (fun v w' => QIs w' v (q))] [some 16, some 17, some 18, some 19, some 20, some 21, some 22, some 23, some 24] (by kernel_rfl) (by kernel_rfl) rfl (by kernel_rfl) (by repeat (first | exact trivial | refine ⟨fun _ _ _ g h => by first | exact h.G g | exact fun w3 g3 => h w3 (G.trans g g3), ?_⟩)) (by kernel_rfl) (by kernel_rfl) ?_
    refine Letters.is ?_
    refine Letters.is ?_
    refine Letters.is ?_
    refine Letters.is ?_
    refine Letters.is ?_
    refine Letters.any fun v5 => ?_
    refine Letters.any fun v6 => ?_
    refine Letters.any fun v7 => ?_
    refine Letters.any fun v8 => ?_
    refine Letters.nil ?_
    intro A hA
    simp only [fillD, Act.put, List.setIfInBounds_toArray, List.set_cons_zero, List.set_cons_succ] at hA
    subst hA
    refine ⟨?_, ?_⟩
    · skip
      refine Eaches.cons rfl ?_ ?_
      · intro W hW hD K hK
        clear hD
        go_simp
        exact hK.out _ _ ⟨_, by first | (simp only [Act.put, List.setIfInBounds_toArray, List.set_cons_zero, List.set_cons_succ]; done) | simp only [Act.put, List.setIfInBounds_toArray, List.set_cons_zero, List.set_cons_succ, *], G.refl _, rfl⟩
      refine Eaches.cons rfl ?_ ?_
      · intro W hW hD K hK
        clear hD
        have hR0 := Rec.f2 (Rec.G R0.out hW)
        have hR0_0 := hR0.1
        have hR0_1 := hR0.2.1
        clear hR0
        go_simp
        exact hK.out _ _ ⟨_, by first | (simp only [Act.put, List.setIfInBounds_toArray, List.set_cons_zero, List.set_cons_succ]; done) | simp only [Act.put, List.setIfInBounds_toArray, List.set_cons_zero, List.set_cons_succ, *], G.refl _, rfl⟩
      refine Eaches.cons rfl ?_ ?_
      · intro W hW hD K hK
        clear hD
        go_simp
        exact hK.out _ _ ⟨_, by first | (simp only [Act.put, List.setIfInBounds_toArray, List.set_cons_zero, List.set_cons_succ]; done) | simp only [Act.put, List.setIfInBounds_toArray, List.set_cons_zero, List.set_cons_succ, *], G.refl _, rfl⟩
      refine Eaches.cons rfl ?_ ?_
      · intro W hW hD K hK
        clear hD
        have hR0 := Rec.f2 (Rec.G R0.out hW)
        have hR0_0 := hR0.1
        have hR0_1 := hR0.2.1
        clear hR0
        go_simp
        exact hK.out _ _ ⟨_, by first | (simp only [Act.put, List.setIfInBounds_toArray, List.set_cons_zero, List.set_cons_succ]; done) | simp only [Act.put, List.setIfInBounds_toArray, List.set_cons_zero, List.set_cons_succ, *], G.refl _, rfl⟩
      refine Eaches.cons rfl ?_ ?_
      · intro W hW hD K hK
        clear hD
        go_simp
        exact hK.out _ _ ⟨_, by first | (simp only [Act.put, List.setIfInBounds_toArray, List.set_cons_zero, List.set_cons_succ]; done) | simp only [Act.put, List.setIfInBounds_toArray, List.set_cons_zero, List.set_cons_succ, *], G.refl _, rfl⟩
      refine Eaches.cons rfl ?_ ?_
      · intro W hW hD K hK
        clear hD
        go_simp
        go_wp2_with (go_at_call 144; refine Calls.mono (P := Tryz.prog) (HL.out W (.slice a k c) (K1.out.G (G.trans g2 hW))) ?_; intro e w9 hs; obtain ⟨u9, rfl, g9, hn9⟩ := hs)
        exact hK.out _ _ ⟨_, by first | (simp only [Act.put, List.setIfInBounds_toArray, List.set_cons_zero, List.set_cons_succ]; done) | simp only [Act.put, List.setIfInBounds_toArray, List.set_cons_zero, List.set_cons_succ, *], g9, hn9⟩
      refine Eaches.cons rfl ?_ ?_
      · intro W hW hD K hK
        have h5 := Deps.get (v := v5) 5 hD rfl rfl (by kernel_rfl)
        clear hD
        go_simp
        go_wp2_with (go_at_call 101; refine Calls.mono (P := Tryz.prog) (HS.out W v5 h5) ?_; intro e w9 hs; obtain ⟨u9, rfl, g9, hn9⟩ := hs)
        exact hK.out _ _ ⟨_, by first | (simp only [Act.put, List.setIfInBounds_toArray, List.set_cons_zero, List.set_cons_succ]; done) | simp only [Act.put, List.setIfInBounds_toArray, List.set_cons_zero, List.set_cons_succ, *], g9, hn9⟩
      refine Eaches.cons rfl ?_ ?_
      · intro W hW hD K hK
        clear hD
        go_simp
        exact hK.out _ _ ⟨_, by first | (simp only [Act.put, List.setIfInBounds_toArray, List.set_cons_zero, List.set_cons_succ]; done) | simp only [Act.put, List.setIfInBounds_toArray, List.set_cons_zero, List.set_cons_succ, *], (G.refl _).alloc _, num_one (by decide) (by decide)⟩
      refine Eaches.cons rfl ?_ ?_
      · intro W hW hD K hK
        have h6 := Deps.get (v := v6) 6 hD rfl rfl (by kernel_rfl)
        have h7 := Deps.get (v := v7) 7 hD rfl rfl (by kernel_rfl)
        clear hD
        go_simp
        go_wp2_with (go_at_call 100; refine Calls.mono (P := Tryz.prog) (HF.out W v6 v7 h6 h7) ?_; intro e w9 hs; obtain ⟨u9, rfl, g9, hn9⟩ := hs)
        exact hK.out _ _ ⟨_, by first | (simp only [Act.put, List.setIfInBounds_toArray, List.set_cons_zero, List.set_cons_succ]; done) | simp only [Act.put, List.setIfInBounds_toArray, List.set_cons_zero, List.set_cons_succ, *], g9, hn9⟩
      exact Eaches.nil
    intro w3 g3 hH
    have h8 := Helds.get (v := v8) 8 hH rfl rfl
    clear hH
    clear HL HF HS R0 K1
    have g13 := G.trans g2 g3
    clear g2 g3
    obtain ⟨a8, k8, c8, a9, k9, c9, rfl, hm8, hm9⟩ := h8
    have HN8 : Hid (Num w3 (.slice a8 k8 c8) (q).num.natAbs) := hm8
    have HN9 : Hid (Num w3 (.slice a9 k9 c9) (lowOf (q).den)) := hm9
    obtain ⟨t9, ht9⟩ : ∃ t, t = decide ((q).num < 0) := ⟨_, rfl⟩
    rw [← ht9]
    have HT9 : Hid (t9 = decide ((q).num < 0)) := ht9
    clear hm8 hm9 ht9
    have hS := Rec.f3 (Rec.G S0.out (g13))
    have hS_0 := hS.1
    have hS_1 := hS.2.1
    have hS_2 := hS.2.2.1
    have hS_3 := hS.2.2.2.1
    have hS_4 := hS.2.2.2.2.1
    have hS_5 := hS.2.2.2.2.2
    clear hS
    refine wpAny_ready (rs := [9]) (by kernel_rfl) (by simp) ?_
    refine AllReady.cons rfl (fun K hK => ?_) AllReady.nil
    go_simp
    refine hK _ _ ?_
    clear hK K hS_0 hS_1 hS_2 hS_3 hS_4 hS_5
    refine wpAny_done (by kernel_rfl) ?_ _
    have HN8' : Num _ _ _ := num_set3 (u1 := .bool t9) (u2 := .slice a8 k8 c8) (u3 := .slice a9 k9 c9) HN8.out (Rec.G S0.out (g13)) trivial trivial trivial
    have HN9' : Num _ _ _ := num_set3 (u1 := .bool t9) (u2 := .slice a8 k8 c8) (u3 := .slice a9 k9 c9) HN9.out (Rec.G S0.out (g13)) trivial trivial trivial
    go_wp2_with fail
    have hT : Hid (Rec (World.setCell (World.setCell (World.setCell w3 ⟨w.heap.size, 0, none⟩ (.bool t9)) ⟨w.heap.size, 1, none⟩ (.slice a8 k8 c8)) ⟨w.heap.size, 2, none⟩ (.slice a9 k9 c9)) (w.heap.size) [.bool t9, .slice a8 k8 c8, .slice a9 k9 c9]) := Rec.set3 (Rec.G S0.out (g13))
    have g9 := Rec.g3 (b := w.heap.size) (u := .bool t9) (v := .slice a8 k8 c8) (x := .slice a9 k9 c9) (G.trans g01 g13) (by omega)
    generalize (World.setCell (World.setCell (World.setCell w3 ⟨w.heap.size, 0, none⟩ (.bool t9)) ⟨w.heap.size, 1, none⟩ (.slice a8 k8 c8)) ⟨w.heap.size, 2, none⟩ (.slice a9 k9 c9)) = w9 at *
    have hF := Rec.f3 (Rec.G hT.out ((G.refl _)))
    have hF_0 := hF.1
    have hF_1 := hF.2.1
    have hF_2 := hF.2.2.1
    have hF_3 := hF.2.2.2.1
    have hF_4 := hF.2.2.2.2.1
    have hF_5 := hF.2.2.2.2.2
    clear hF
    refine bodyPost_ret (v := .agg #[.bool t9, .slice a8 k8 c8, .slice a9 k9 c9]) (by simp [results, Tryz.results140, go_sem, *]) rfl ?_
    exact ⟨_, rfl, g9, a8, k8, c8, a9, k9, c9, by rw [← HT9.out], HN8', HN9'⟩

end Go.Proofs.YtielcpkcfpbanacGreatDoor.EN
namespace Go.Proofs.YtielcpkcfpbanacGreatDoor.EN
open Go.ChangeShapes Go.WideShapes Go.ChangeAt Go.RowKit

theorem num_set1 {w : World} {v : Value} {n b i : Nat} {x y u : Value} (h : Num w v n) (r : Rec w b [x, y]) (hx : noInt x) (hy : noInt y) : Num (w.setCell ⟨b, i, none⟩ u) v n :=
  num_apart h r (by intro z hz; simp at hz; rcases hz with rfl | rfl <;> assumption) _ (fun i k hi => by
    rw [World.cell?_setCell_other _ _ _ _ (by intro e; injection e with e1; exact hi e1.symm)]) (by simp [World.setCell])
theorem rec_ne {w : World} {b c : Nat} {x y x' y' z' : Value} (h : Rec w b [x, y]) (h2 : Rec w c [x', y', z']) : b ≠ c := by
  intro e
  subst e
  obtain ⟨t, h⟩ := h
  obtain ⟨t2, h2⟩ := h2
  rw [h] at h2
  simp at h2

/-- A sum of fractions over one bar: s divides both bars, r the sum above and s. -/
theorem join_val {x y : Rat} {op : Int → Int → Int} {z : Rat} (hz : z = mkRat (op (x.num * y.den) (y.num * x.den)) (x.den * y.den)) (hop : ∀ a b k : Int, op a b * k = op (a * k) (b * k))
    {s r : Nat} (hs : s = Nat.gcd x.den y.den) {T : Int} (hT : T = op (x.num * ((y.den / s : Nat) : Int)) (y.num * ((x.den / s : Nat) : Int))) (hr : r = Nat.gcd T.natAbs s) (t : Bool) (ht : t = decide (T < 0)) :
    z = mkRat (sgn t (T.natAbs / r)) (x.den / s * (y.den / s) * (s / r)) := by
  have hxd := x.den_pos
  have hyd := y.den_pos
  have hs0 : 0 < s := by rw [hs]; exact Nat.gcd_pos_of_pos_left _ hxd
  have hr0 : 0 < r := by rw [hr]; exact Nat.gcd_pos_of_pos_right _ hs0
  obtain ⟨a, ha⟩ : s ∣ x.den := by rw [hs]; exact Nat.gcd_dvd_left _ _
  obtain ⟨b, hb⟩ : s ∣ y.den := by rw [hs]; exact Nat.gcd_dvd_right _ _
  obtain ⟨c, hc⟩ : r ∣ T.natAbs := by rw [hr]; exact Nat.gcd_dvd_left _ _
  obtain ⟨e, he⟩ : r ∣ s := by rw [hr]; exact Nat.gcd_dvd_right _ _
  have e1 : x.den / s = a := by rw [ha]; exact Nat.mul_div_cancel_left _ hs0
  have e2 : y.den / s = b := by rw [hb]; exact Nat.mul_div_cancel_left _ hs0
  have e3 : T.natAbs / r = c := by rw [hc]; exact Nat.mul_div_cancel_left _ hr0
  have e4 : s / r = e := by rw [he]; exact Nat.mul_div_cancel_left _ hr0
  rw [e1, e2] at hT ⊢
  rw [e3, e4]
  have ha0 : a ≠ 0 := by rintro rfl; omega
  have hb0 : b ≠ 0 := by rintro rfl; omega
  have he0 : e ≠ 0 := by rintro rfl; omega
  have hTs : T = sgn t c * (r : Int) := by
    have h := sgn_abs T
    rw [← ht, hc, Nat.mul_comm, sgn_scale] at h
    exact h.symm
  have htop : op (x.num * y.den) (y.num * x.den) = T * (s : Int) := by
    rw [hT, hop, ha, hb]
    congr 1 <;> (rw [Int.natCast_mul]; ac_rfl)
  rw [hz, htop, hTs, ha, hb]
  rw [Rat.mkRat_eq_iff (Nat.mul_ne_zero (Nat.mul_ne_zero (by omega) ha0) (Nat.mul_ne_zero (by omega) hb0)) (Nat.mul_ne_zero (Nat.mul_ne_zero ha0 hb0) he0)]
  have h5 : (s : Int) = r * e := by rw [he, Int.natCast_mul]
  simp only [Int.natCast_mul]
  rw [h5]
  ac_rfl
theorem join_low {x y : Rat} {op : Int → Int → Int} (hop1 : ∀ p q g : Int, g ∣ q → g ∣ op p q → g ∣ p) (hop2 : ∀ p q g : Int, g ∣ p → g ∣ op p q → g ∣ q)
    {s r : Nat} (hs : s = Nat.gcd x.den y.den) {T : Int} (hT : T = op (x.num * ((y.den / s : Nat) : Int)) (y.num * ((x.den / s : Nat) : Int))) (hr : r = Nat.gcd T.natAbs s) :
    Nat.gcd (T.natAbs / r) (x.den / s * (y.den / s) * (s / r)) = 1 := by
  have hxd := x.den_pos
  have hyd := y.den_pos
  have hs0 : 0 < s := by rw [hs]; exact Nat.gcd_pos_of_pos_left _ hxd
  have hr0 : 0 < r := by rw [hr]; exact Nat.gcd_pos_of_pos_right _ hs0
  have hxs : s ∣ x.den := by rw [hs]; exact Nat.gcd_dvd_left _ _
  have hys : s ∣ y.den := by rw [hs]; exact Nat.gcd_dvd_right _ _
  have hab : Nat.gcd (x.den / s) (y.den / s) = 1 := by rw [hs]; exact cop_div hyd
  have hra : r ∣ T.natAbs := by rw [hr]; exact Nat.gcd_dvd_left _ _
  have hTr : Nat.gcd (T.natAbs / r) (s / r) = 1 := by rw [hr]; exact cop_div hs0
  have hxa : x.den / s ∣ x.den := Nat.div_dvd_of_dvd hxs
  have hyb : y.den / s ∣ y.den := Nat.div_dvd_of_dvd hys
  have key : ∀ (n d e : Nat), Nat.gcd n d = 1 → Nat.gcd d e = 1 → Nat.gcd (n * e) d = 1 := fun n d e h1 h2 => Nat.Coprime.mul_left h1 (by show Nat.gcd e d = 1; rw [Nat.gcd_comm]; exact h2)
  have hTa : Nat.gcd T.natAbs (x.den / s) = 1 := by
    refine Nat.eq_one_of_dvd_one ?_
    have g1 : ((Nat.gcd T.natAbs (x.den / s) : Nat) : Int) ∣ T := Int.ofNat_dvd_left.2 (Nat.gcd_dvd_left _ _)
    have g2 : Nat.gcd T.natAbs (x.den / s) ∣ x.den / s := Nat.gcd_dvd_right _ _
    generalize Nat.gcd T.natAbs (x.den / s) = g at *
    rw [hT] at g1
    have g3 := hop1 _ _ _ (Int.dvd_trans (Int.natCast_dvd_natCast.2 g2) (Int.dvd_mul_left _ _)) g1
    have g4 := Int.ofNat_dvd_left.1 g3
    rw [Int.natAbs_mul, Int.natAbs_natCast] at g4
    have g5 := key x.num.natAbs (x.den / s) (y.den / s) (cop_dvd x.reduced (Nat.dvd_refl _) hxa) hab
    rw [← g5]
    exact Nat.dvd_gcd g4 g2
  have hTb : Nat.gcd T.natAbs (y.den / s) = 1 := by
    refine Nat.eq_one_of_dvd_one ?_
    have g1 : ((Nat.gcd T.natAbs (y.den / s) : Nat) : Int) ∣ T := Int.ofNat_dvd_left.2 (Nat.gcd_dvd_left _ _)
    have g2 : Nat.gcd T.natAbs (y.den / s) ∣ y.den / s := Nat.gcd_dvd_right _ _
    generalize Nat.gcd T.natAbs (y.den / s) = g at *
    rw [hT] at g1
    have g3 := hop2 _ _ _ (Int.dvd_trans (Int.natCast_dvd_natCast.2 g2) (Int.dvd_mul_left _ _)) g1
    have g4 := Int.ofNat_dvd_left.1 g3
    rw [Int.natAbs_mul, Int.natAbs_natCast] at g4
    have g5 := key y.num.natAbs (y.den / s) (x.den / s) (cop_dvd y.reduced (Nat.dvd_refl _) hyb) (by rw [Nat.gcd_comm]; exact hab)
    rw [← g5]
    exact Nat.dvd_gcd g4 g2
  have hd : T.natAbs / r ∣ T.natAbs := Nat.div_dvd_of_dvd hra
  exact Nat.Coprime.mul_right (Nat.Coprime.mul_right (cop_dvd hTa hd (Nat.dvd_refl _)) (cop_dvd hTb hd (Nat.dvd_refl _))) hTr

set_option maxHeartbeats 2000000 in
theorem joined_plus (w : World) (v u : Value) (x y : Rat) (K : Nat) (hK : K ≤ 40000) (hK1 : 1 ≤ K) (hTb : Tab w) (hx : QIs w v x) (hy : QIs w u y) (bx : QB x K) (by_ : QB y K) :
    Calls Tryz.prog 119 #[v, u, .func (.func 120) #[] #[]] w (RetQ w (x + y)) := by
  have HBX : Hid (∀ w1, G w w1 → _) := fun w1 g => bar_c w1 v x (hx.G g)
  have HBY : Hid (∀ w1, G w w1 → _) := fun w1 g => bar_c w1 u y (hy.G g)
  obtain ⟨a, k, c, a', k', c', rfl, hx1, hx2⟩ := hx
  obtain ⟨b, j, e, b', j', e', rfl, hy1, hy2⟩ := hy
  have hxd := x.den_pos
  have hyd := y.den_pos
  obtain ⟨s, hs⟩ : ∃ s, s = Nat.gcd x.den y.den := ⟨_, rfl⟩
  have hs0 : 0 < s := by rw [hs]; exact Nat.gcd_pos_of_pos_left _ hxd
  have hsb : s < 2 ^ (64 * K) := Nat.lt_of_le_of_lt (by rw [hs]; exact Nat.gcd_le_left _ hxd) bx.2
  obtain ⟨T, hT⟩ : ∃ T : Int, T = x.num * ((y.den / s : Nat) : Int) + y.num * ((x.den / s : Nat) : Int) := ⟨_, rfl⟩
  obtain ⟨r, hr⟩ : ∃ r, r = Nat.gcd T.natAbs s := ⟨_, rfl⟩
  obtain ⟨t, ht⟩ : ∃ t, t = decide (T < 0) := ⟨_, rfl⟩
  have hr0 : 0 < r := by rw [hr]; exact Nat.gcd_pos_of_pos_right _ hs0
  have hrb : r ≤ s := by rw [hr]; exact Nat.gcd_le_right _ hs0
  have hval := join_val (x := x) (y := y) (op := fun p q => p + q) (z := x + y) (Rat.add_def' x y) (fun p q k => Int.add_mul p q k) hs hT hr t ht
  have hlow := join_low (x := x) (y := y) (op := fun p q => p + q) (fun p q g h1 h2 => by
      have h3 := Int.dvd_sub h2 h1; rwa [show p + q - q = p from by omega] at h3) (fun p q g h1 h2 => by
      have h3 := Int.dvd_sub h2 h1; rwa [show p + q - p = q from by omega] at h3) hs hT hr
  have hsgx : sgn (decide (x.num < 0)) x.num.natAbs = x.num := sgn_abs _
  have hsgy : sgn (decide (y.num < 0)) y.num.natAbs = y.num := sgn_abs _
  obtain ⟨p, hp⟩ : ∃ p, p = x.den := ⟨_, rfl⟩
  obtain ⟨q, hq⟩ : ∃ q, q = y.den := ⟨_, rfl⟩
  obtain ⟨A, hA⟩ : ∃ A, A = x.den / s := ⟨_, rfl⟩
  obtain ⟨B, hB⟩ : ∃ B, B = y.den / s := ⟨_, rfl⟩
  have bA : A < 2 ^ (64 * K) := Nat.lt_of_le_of_lt (by rw [hA]; exact Nat.div_le_self _ _) bx.2
  have bB : B < 2 ^ (64 * K) := Nat.lt_of_le_of_lt (by rw [hB]; exact Nat.div_le_self _ _) by_.2
  have A0 : 0 < A := by rw [hA]; exact Nat.div_pos (by rw [hs]; exact Nat.gcd_le_left _ hxd) hs0
  have B0 : 0 < B := by rw [hB]; exact Nat.div_pos (by rw [hs]; exact Nat.gcd_le_right _ hyd) hs0
  have HC1 : Hid (∀ w1 v1 v2, G w w1 → Num w1 v1 p → Num w1 v2 q → Calls Tryz.prog 96 #[v1, v2] w1 (RetNum w1 s)) := fun w1 v1 v2 g h1 h2 => by
    rw [hs, ← hp, ← hq]; exact common_c w1 v1 v2 p q K (by omega) hK1 (hTb.G g) h1 h2 (by rw [hp]; exact bx.2) (by rw [hq]; exact by_.2)
  have HO1 : Hid (∀ w1 v1 v2, Num w1 v1 p → Num w1 v2 s → Calls Tryz.prog 98 #[v1, v2] w1 (RetNum w1 A)) := fun w1 v1 v2 h1 h2 => by
    rw [hA, ← hp]; exact over_c w1 v1 v2 p s K (by omega) hK1 h1 h2 (by rw [hp]; exact bx.2) hsb hs0
  have HO2 : Hid (∀ w1 v1 v2, Num w1 v1 q → Num w1 v2 s → Calls Tryz.prog 98 #[v1, v2] w1 (RetNum w1 B)) := fun w1 v1 v2 h1 h2 => by
    rw [hB, ← hq]; exact over_c w1 v1 v2 q s K (by omega) hK1 h1 h2 (by rw [hq]; exact by_.2) hsb hs0
  rw [← hA, ← hB] at hT hval hlow
  have HT1 : Hid (∀ w1 v1, G w w1 → Num w1 v1 B → Calls Tryz.prog 102 #[.agg #[.bool (decide (x.num < 0)), .slice a k c], v1] w1 (RetWhole w1 (x.num * B))) := fun w1 v1 g h => by
    have h := wtimes_c w1 (.agg #[.bool (decide (x.num < 0)), .slice a k c]) v1 _ _ _ K (by omega) ⟨a, k, c, rfl, hx1.G g⟩ h bx.1 bB
    rw [hsgx] at h; exact h
  have HT2 : Hid (∀ w1 v1, G w w1 → Num w1 v1 A → Calls Tryz.prog 102 #[.agg #[.bool (decide (y.num < 0)), .slice b j e], v1] w1 (RetWhole w1 (y.num * A))) := fun w1 v1 g h => by
    have h := wtimes_c w1 (.agg #[.bool (decide (y.num < 0)), .slice b j e]) v1 _ _ _ K (by omega) ⟨b, j, e, rfl, hy1.G g⟩ h by_.1 bA
    rw [hsgy] at h; exact h
  have q1 : (x.num * (B : Int)).natAbs < 2 ^ (64 * (K + K)) := by rw [Int.natAbs_mul]; exact lt_mul_pow bx.1 bB
  have q2 : (y.num * (A : Int)).natAbs < 2 ^ (64 * (K + K)) := by rw [Int.natAbs_mul]; exact lt_mul_pow by_.1 bA
  have bT : T.natAbs < 2 ^ (64 * (2 * K + 1)) := by
    have h1 : 2 ^ (64 * (2 * K + 1)) = 2 ^ (64 * (K + K)) * 2 ^ 64 := by rw [← Nat.pow_add]; congr 1; omega
    rw [hT, h1]
    generalize x.num * (B : Int) = X at *
    generalize y.num * (A : Int) = Y at *
    generalize 2 ^ (64 * (K + K)) = P at *
    omega
  obtain ⟨X, hX⟩ : ∃ X : Int, X = x.num * B := ⟨_, rfl⟩
  obtain ⟨Y, hY⟩ : ∃ Y : Int, Y = y.num * A := ⟨_, rfl⟩
  rw [← hX] at HT1 q1 hT
  rw [← hY] at HT2 q2 hT
  have HP : Hid (∀ w1 v1 v2, WholeIs w1 v1 X → WholeIs w1 v2 Y → Calls Tryz.prog 120 #[v1, v2] w1 (RetWhole w1 T)) := fun w1 v1 v2 h1 h2 => by
    have h := wplus_c w1 v1 v2 _ _ _ _ (K + K) (by omega) h1 h2 q1 q2
    rw [sgn_abs, sgn_abs, ← hT] at h; exact h
  have HC2 : Hid (∀ w1 v1 v2, G w w1 → Num w1 v1 T.natAbs → Num w1 v2 s → Calls Tryz.prog 96 #[v1, v2] w1 (RetNum w1 r)) := fun w1 v1 v2 g h1 h2 => by
    rw [hr]; exact common_c w1 v1 v2 _ s (2 * K + 1) (by omega) (by omega) (hTb.G g) h1 h2 bT (Nat.lt_of_lt_of_le hsb (Nat.pow_le_pow_right (by omega) (by omega)))
  have HO3 : Hid (∀ w1 v1 v2, Num w1 v1 T.natAbs → Num w1 v2 r → _) := fun w1 v1 v2 h1 h2 => over_c w1 v1 v2 _ r (2 * K + 1) (by omega) (by omega) h1 h2 bT (Nat.lt_of_le_of_lt hrb (Nat.lt_of_lt_of_le hsb (Nat.pow_le_pow_right (by omega) (by omega)))) hr0
  have HO4 : Hid (∀ w1 v1 v2, Num w1 v1 s → Num w1 v2 r → _) := fun w1 v1 v2 h1 h2 => over_c w1 v1 v2 s r K (by omega) hK1 h1 h2 hsb (Nat.lt_of_le_of_lt hrb hsb) hr0
  have q3 : s / r < 2 ^ (64 * K) := Nat.lt_of_le_of_lt (Nat.div_le_self _ _) hsb
  have q4 : 0 < s / r := Nat.div_pos hrb hr0
  have HM1 : Hid (∀ w1 v1 v2, Num w1 v1 A → Num w1 v2 B → _) := fun w1 v1 v2 h1 h2 => times_c w1 v1 v2 A B K (by omega) h1 h2 bA bB
  have bAB : A * B < 2 ^ (64 * (K + K)) := lt_mul_pow bA bB
  have HM2 : Hid (∀ w1 v1 v2, Num w1 v1 (A * B) → Num w1 v2 (s / r) → _) := fun w1 v1 v2 h1 h2 => times_c w1 v1 v2 (A * B) (s / r) (K + K) (by omega) h1 h2 bAB (Nat.lt_of_lt_of_le q3 (Nat.pow_le_pow_right (by omega) (by omega)))
  have htc : decide (sgn t (T.natAbs / r) < 0) = t := by
    rw [neg_sgn]
    have h1 : r ∣ T.natAbs := by rw [hr]; exact Nat.gcd_dvd_left _ _
    rw [ht]
    by_cases h : T < 0
    · have h2 : 0 < T.natAbs / r := Nat.div_pos (Nat.le_of_dvd (by omega) h1) hr0
      simp [h, h2]
    · simp [h]
  have HF : Hid (∀ w1 d1 d2 d3 v2, Num w1 (.slice d1 d2 d3) (T.natAbs / r) → Num w1 v2 (A * B * (s / r)) → Calls Tryz.prog 100 #[.agg #[.bool t, .slice d1 d2 d3], v2] w1 (RetQ w1 (x + y))) := fun w1 d1 d2 d3 v2 h1 h2 =>
    fraction_c w1 _ v2 (sgn t (T.natAbs / r)) (A * B * (s / r)) ((K + K) + K) (x + y) ⟨d1, d2, d3, by rw [htc], by rw [abs_sgn]; exact h1⟩ h2 (Nat.mul_pos (Nat.mul_pos A0 B0) q4) (lt_mul_pow bAB q3) (fun _ => by rw [abs_sgn]; exact hlow) hval
  have HTS : Hid (t = decide (T < 0)) := ht
  clear hval hlow htc hsgx hsgy hX hY hT hA hB hs hr ht q1 q2 q3 q4 bAB bT bA bB A0 B0 hs0 hsb hr0 hrb hxd hyd bx by_ hTb hx1 hx2 hy1 hy2
  generalize A * B * (s / r) = M at *
  generalize A * B = N at *
  generalize s / r = sr at *
  generalize T.natAbs / r = tr at *
  generalize x + y = z at *
  obtain ⟨sx, hsx⟩ : ∃ sx, sx = decide (x.num < 0) := ⟨_, rfl⟩
  obtain ⟨sy, hsy⟩ : ∃ sy, sy = decide (y.num < 0) := ⟨_, rfl⟩
  rw [← hsx] at HBX HT1
  rw [← hsy] at HBY HT2
  rw [← hsx, ← hsy]
  rw [← hp] at HBX
  rw [← hq] at HBY
  clear hsx hsy hp hq
  go_enter Tryz.func119, Tryz.ntmps119
  go_wp2_with fail
  have g0 : G w (World.alloc (World.alloc (w.alloc (.cells #[.bool sx, .slice a k c, .slice a' k' c'] 96)) (.cells #[.bool sy, .slice b j e, .slice b' j' e'] 96)) (.cells #[.bool false, .slice none 0 0, .slice none 0 0] 96)) := ((((G.refl w).alloc _).alloc _).alloc _)
  have R0 : Hid (Rec (World.alloc (World.alloc (w.alloc (.cells #[.bool sx, .slice a k c, .slice a' k' c'] 96)) (.cells #[.bool sy, .slice b j e, .slice b' j' e'] 96)) (.cells #[.bool false, .slice none 0 0, .slice none 0 0] 96)) (w.heap.size) [.bool sx, .slice a k c, .slice a' k' c']) := by
    have h := Rec.new3 w (.bool sx) (.slice a k c) (.slice a' k' c') 96
    exact (Rec.G (Rec.G h ((G.refl (w.alloc (.cells #[.bool sx, .slice a k c, .slice a' k' c'] 96))).alloc (.cells #[.bool sy, .slice b j e, .slice b' j' e'] 96))) ((G.refl (World.alloc (w.alloc (.cells #[.bool sx, .slice a k c, .slice a' k' c'] 96)) (.cells #[.bool sy, .slice b j e, .slice b' j' e'] 96))).alloc (.cells #[.bool false, .slice none 0 0, .slice none 0 0] 96)))
  have R1 : Hid (Rec (World.alloc (World.alloc (w.alloc (.cells #[.bool sx, .slice a k c, .slice a' k' c'] 96)) (.cells #[.bool sy, .slice b j e, .slice b' j' e'] 96)) (.cells #[.bool false, .slice none 0 0, .slice none 0 0] 96)) (w.heap.size + 1) [.bool sy, .slice b j e, .slice b' j' e']) := by
    have h := Rec.new3 (w.alloc (.cells #[.bool sx, .slice a k c, .slice a' k' c'] 96)) (.bool sy) (.slice b j e) (.slice b' j' e') 96
    rw [show (w.alloc (.cells #[.bool sx, .slice a k c, .slice a' k' c'] 96)).heap.size = w.heap.size + 1 from by simp] at h
    exact (Rec.G h ((G.refl (World.alloc (w.alloc (.cells #[.bool sx, .slice a k c, .slice a' k' c'] 96)) (.cells #[.bool sy, .slice b j e, .slice b' j' e'] 96))).alloc (.cells #[.bool false, .slice none 0 0, .slice none 0 0] 96)))
  have R2 : Hid (Rec (World.alloc (World.alloc (w.alloc (.cells #[.bool sx, .slice a k c, .slice a' k' c'] 96)) (.cells #[.bool sy, .slice b j e, .slice b' j' e'] 96)) (.cells #[.bool false, .slice none 0 0, .slice none 0 0] 96)) (w.heap.size + 2) [.bool false, .slice none 0 0, .slice none 0 0]) := by
    have h := Rec.new3 (World.alloc (w.alloc (.cells #[.bool sx, .slice a k c, .slice a' k' c'] 96)) (.cells #[.bool sy, .slice b j e, .slice b' j' e'] 96)) (.bool false) (.slice none 0 0) (.slice none 0 0) 96
    rw [show (World.alloc (w.alloc (.cells #[.bool sx, .slice a k c, .slice a' k' c'] 96)) (.cells #[.bool sy, .slice b j e, .slice b' j' e'] 96)).heap.size = w.heap.size + 2 from by simp] at h
    exact h
  have hz0 : (World.alloc (World.alloc (w.alloc (.cells #[.bool sx, .slice a k c, .slice a' k' c'] 96)) (.cells #[.bool sy, .slice b j e, .slice b' j' e'] 96)) (.cells #[.bool false, .slice none 0 0, .slice none 0 0] 96)).heap.size = w.heap.size + 3 := by simp
  generalize (World.alloc (World.alloc (w.alloc (.cells #[.bool sx, .slice a k c, .slice a' k' c'] 96)) (.cells #[.bool sy, .slice b j e, .slice b' j' e'] 96)) (.cells #[.bool false, .slice none 0 0, .slice none 0 0] 96)) = w0 at *
  refine region_each 6 0 #[true, true, true, true, true, true] [.is (.agg #[.bool sx, .slice a k c, .slice a' k' c']), .any (fun v w' => Num w' v (p)), .is (.agg #[.bool sy, .slice b j e, .slice b' j' e']), .any (fun v w' => Num w' v (q)), .any (fun v w' => Num w' v (s)), .any (fun v w' => Num w' v (s))] [some 12, some 13, some 14, some 15, some 16, some 7] (by kernel_rfl) (by kernel_rfl) rfl (by kernel_rfl) (by repeat (first | exact trivial | refine ⟨fun _ _ _ g h => by first | exact h.G g | exact fun w3 g3 => h w3 (G.trans g g3), ?_⟩)) (by kernel_rfl) (by kernel_rfl) ?_
  refine Letters.is ?_
  refine Letters.any fun v1 => ?_
  refine Letters.is ?_
  refine Letters.any fun v3 => ?_
  refine Letters.any fun v4 => ?_
  refine Letters.any fun v5 => ?_
  refine Letters.nil ?_
  intro A hA
  simp only [fillD, Act.put, List.setIfInBounds_toArray, List.set_cons_zero, List.set_cons_succ] at hA
  subst hA
  refine ⟨?_, ?_⟩
  · skip
    refine Eaches.cons rfl ?_ ?_
    · intro W hW hD K hK
      clear hD
      have hR0 := Rec.f3 (Rec.G R0.out hW)
      have hR0_0 := hR0.1
      have hR0_1 := hR0.2.1
      have hR0_2 := hR0.2.2.1
      clear hR0
      have hR1 := Rec.f3 (Rec.G R1.out hW)
      have hR1_0 := hR1.1
      have hR1_1 := hR1.2.1
      have hR1_2 := hR1.2.2.1
      clear hR1
      go_simp
      exact hK.out _ _ ⟨_, by first | (simp only [Act.put, List.setIfInBounds_toArray, List.set_cons_zero, List.set_cons_succ]; done) | simp only [Act.put, List.setIfInBounds_toArray, List.set_cons_zero, List.set_cons_succ, *], G.refl _, rfl⟩
    refine Eaches.cons rfl ?_ ?_
    · intro W hW hD K hK
      clear hD
      go_simp
      go_wp2_with (go_at_call 97; refine Calls.mono (P := Tryz.prog) (HBX.out W (G.trans g0 hW)) ?_; intro e w9 hs; obtain ⟨u9, rfl, g9, hn9⟩ := hs)
      exact hK.out _ _ ⟨_, by first | (simp only [Act.put, List.setIfInBounds_toArray, List.set_cons_zero, List.set_cons_succ]; done) | simp only [Act.put, List.setIfInBounds_toArray, List.set_cons_zero, List.set_cons_succ, *], g9, hn9⟩
    refine Eaches.cons rfl ?_ ?_
    · intro W hW hD K hK
      clear hD
      have hR0 := Rec.f3 (Rec.G R0.out hW)
      have hR0_0 := hR0.1
      have hR0_1 := hR0.2.1
      have hR0_2 := hR0.2.2.1
      clear hR0
      have hR1 := Rec.f3 (Rec.G R1.out hW)
      have hR1_0 := hR1.1
      have hR1_1 := hR1.2.1
      have hR1_2 := hR1.2.2.1
      clear hR1
      go_simp
      exact hK.out _ _ ⟨_, by first | (simp only [Act.put, List.setIfInBounds_toArray, List.set_cons_zero, List.set_cons_succ]; done) | simp only [Act.put, List.setIfInBounds_toArray, List.set_cons_zero, List.set_cons_succ, *], G.refl _, rfl⟩
    refine Eaches.cons rfl ?_ ?_
    · intro W hW hD K hK
      clear hD
      go_simp
      go_wp2_with (go_at_call 97; refine Calls.mono (P := Tryz.prog) (HBY.out W (G.trans g0 hW)) ?_; intro e w9 hs; obtain ⟨u9, rfl, g9, hn9⟩ := hs)
      exact hK.out _ _ ⟨_, by first | (simp only [Act.put, List.setIfInBounds_toArray, List.set_cons_zero, List.set_cons_succ]; done) | simp only [Act.put, List.setIfInBounds_toArray, List.set_cons_zero, List.set_cons_succ, *], g9, hn9⟩
    refine Eaches.cons rfl ?_ ?_
    · intro W hW hD K hK
      have h1 := Deps.get (v := v1) 1 hD rfl rfl (by kernel_rfl)
      have h3 := Deps.get (v := v3) 3 hD rfl rfl (by kernel_rfl)
      clear hD
      go_simp
      go_wp2_with (go_at_call 96; refine Calls.mono (P := Tryz.prog) (HC1.out W v1 v3 (G.trans g0 hW) h1 h3) ?_; intro e w9 hs; obtain ⟨u9, rfl, g9, hn9⟩ := hs)
      exact hK.out _ _ ⟨_, by first | (simp only [Act.put, List.setIfInBounds_toArray, List.set_cons_zero, List.set_cons_succ]; done) | simp only [Act.put, List.setIfInBounds_toArray, List.set_cons_zero, List.set_cons_succ, *], g9, hn9⟩
    refine Eaches.cons rfl ?_ ?_
    · intro W hW hD K hK
      have h4 := Deps.get (v := v4) 4 hD rfl rfl (by kernel_rfl)
      clear hD
      go_simp
      exact hK.out _ _ ⟨_, by first | (simp only [Act.put, List.setIfInBounds_toArray, List.set_cons_zero, List.set_cons_succ]; done) | simp only [Act.put, List.setIfInBounds_toArray, List.set_cons_zero, List.set_cons_succ, *], G.refl _, h4⟩
    exact Eaches.nil
  intro w1 g1 hH
  have h5 := Helds.get (v := v5) 5 hH rfl rfl
  clear hH
  refine wpAny_done (by kernel_rfl) ?_ _
  generalize v5 = vs at *
  have S5 : Hid (Num w1 vs s) := h5
  have g01 := G.trans g0 g1
  have S0 : Hid (Rec _ _ _) := Rec.G R0.out (g1)
  have S1 : Hid (Rec _ _ _) := Rec.G R1.out (g1)
  have S2 : Hid (Rec _ _ _) := Rec.G R2.out (g1)
  clear h5 R0 R1 R2 g0 g1 HC1
  go_wp2_with fail
  refine region_each 10 0 #[true, true, true, true, true, true, true, true, true, true] [.is (.agg #[.bool sx, .slice a k c, .slice a' k' c']), .any (fun v w' => Num w' v (p)), .is (vs), .any (fun v w' => Num w' v (A)), .is (.agg #[.bool sy, .slice b j e, .slice b' j' e']), .any (fun v w' => Num w' v (q)), .is (vs), .any (fun v w' => Num w' v (B)), .any (fun v w' => Num w' v (A)), .any (fun v w' => Num w' v (B))] [some 17, some 18, some 19, some 20, some 21, some 22, some 23, some 24, some 8, some 9] (by kernel_rfl) (by kernel_rfl) rfl (by kernel_rfl) (by repeat (first | exact trivial | refine ⟨fun _ _ _ g h => by first | exact h.G g | exact fun w3 g3 => h w3 (G.trans g g3), ?_⟩)) (by kernel_rfl) (by kernel_rfl) ?_
  refine Letters.is ?_
  refine Letters.any fun v1 => ?_
  refine Letters.is ?_
  refine Letters.any fun v3 => ?_
  refine Letters.is ?_
  refine Letters.any fun v5 => ?_
  refine Letters.is ?_
  refine Letters.any fun v7 => ?_
  refine Letters.any fun v8 => ?_
  refine Letters.any fun v9 => ?_
  refine Letters.nil ?_
  intro A hA
  simp only [fillD, Act.put, List.setIfInBounds_toArray, List.set_cons_zero, List.set_cons_succ] at hA
  subst hA
  refine ⟨?_, ?_⟩
  · skip
    refine Eaches.cons rfl ?_ ?_
    · intro W hW hD K hK
      clear hD
      have hS0 := Rec.f3 (Rec.G S0.out hW)
      have hS0_0 := hS0.1
      have hS0_1 := hS0.2.1
      have hS0_2 := hS0.2.2.1
      clear hS0
      have hS1 := Rec.f3 (Rec.G S1.out hW)
      have hS1_0 := hS1.1
      have hS1_1 := hS1.2.1
      have hS1_2 := hS1.2.2.1
      clear hS1
      go_simp
      exact hK.out _ _ ⟨_, by first | (simp only [Act.put, List.setIfInBounds_toArray, List.set_cons_zero, List.set_cons_succ]; done) | simp only [Act.put, List.setIfInBounds_toArray, List.set_cons_zero, List.set_cons_succ, *], G.refl _, rfl⟩
    refine Eaches.cons rfl ?_ ?_
    · intro W hW hD K hK
      clear hD
      go_simp
      go_wp2_with (go_at_call 97; refine Calls.mono (P := Tryz.prog) (HBX.out W (G.trans g01 hW)) ?_; intro e w9 hs; obtain ⟨u9, rfl, g9, hn9⟩ := hs)
      exact hK.out _ _ ⟨_, by first | (simp only [Act.put, List.setIfInBounds_toArray, List.set_cons_zero, List.set_cons_succ]; done) | simp only [Act.put, List.setIfInBounds_toArray, List.set_cons_zero, List.set_cons_succ, *], g9, hn9⟩
    refine Eaches.cons rfl ?_ ?_
    · intro W hW hD K hK
      clear hD
      go_simp
      exact hK.out _ _ ⟨_, by first | (simp only [Act.put, List.setIfInBounds_toArray, List.set_cons_zero, List.set_cons_succ]; done) | simp only [Act.put, List.setIfInBounds_toArray, List.set_cons_zero, List.set_cons_succ, *], G.refl _, rfl⟩
    refine Eaches.cons rfl ?_ ?_
    · intro W hW hD K hK
      have h1 := Deps.get (v := v1) 1 hD rfl rfl (by kernel_rfl)
      clear hD
      go_simp
      go_wp2_with (go_at_call 98; refine Calls.mono (P := Tryz.prog) (HO1.out W v1 vs h1 (S5.out.G hW)) ?_; intro e w9 hs; obtain ⟨u9, rfl, g9, hn9⟩ := hs)
      exact hK.out _ _ ⟨_, by first | (simp only [Act.put, List.setIfInBounds_toArray, List.set_cons_zero, List.set_cons_succ]; done) | simp only [Act.put, List.setIfInBounds_toArray, List.set_cons_zero, List.set_cons_succ, *], g9, hn9⟩
    refine Eaches.cons rfl ?_ ?_
    · intro W hW hD K hK
      clear hD
      have hS0 := Rec.f3 (Rec.G S0.out hW)
      have hS0_0 := hS0.1
      have hS0_1 := hS0.2.1
      have hS0_2 := hS0.2.2.1
      clear hS0
      have hS1 := Rec.f3 (Rec.G S1.out hW)
      have hS1_0 := hS1.1
      have hS1_1 := hS1.2.1
      have hS1_2 := hS1.2.2.1
      clear hS1
      go_simp
      exact hK.out _ _ ⟨_, by first | (simp only [Act.put, List.setIfInBounds_toArray, List.set_cons_zero, List.set_cons_succ]; done) | simp only [Act.put, List.setIfInBounds_toArray, List.set_cons_zero, List.set_cons_succ, *], G.refl _, rfl⟩
    refine Eaches.cons rfl ?_ ?_
    · intro W hW hD K hK
      clear hD
      go_simp
      go_wp2_with (go_at_call 97; refine Calls.mono (P := Tryz.prog) (HBY.out W (G.trans g01 hW)) ?_; intro e w9 hs; obtain ⟨u9, rfl, g9, hn9⟩ := hs)
      exact hK.out _ _ ⟨_, by first | (simp only [Act.put, List.setIfInBounds_toArray, List.set_cons_zero, List.set_cons_succ]; done) | simp only [Act.put, List.setIfInBounds_toArray, List.set_cons_zero, List.set_cons_succ, *], g9, hn9⟩
    refine Eaches.cons rfl ?_ ?_
    · intro W hW hD K hK
      clear hD
      go_simp
      exact hK.out _ _ ⟨_, by first | (simp only [Act.put, List.setIfInBounds_toArray, List.set_cons_zero, List.set_cons_succ]; done) | simp only [Act.put, List.setIfInBounds_toArray, List.set_cons_zero, List.set_cons_succ, *], G.refl _, rfl⟩
    refine Eaches.cons rfl ?_ ?_
    · intro W hW hD K hK
      have h5 := Deps.get (v := v5) 5 hD rfl rfl (by kernel_rfl)
      clear hD
      go_simp
      go_wp2_with (go_at_call 98; refine Calls.mono (P := Tryz.prog) (HO2.out W v5 vs h5 (S5.out.G hW)) ?_; intro e w9 hs; obtain ⟨u9, rfl, g9, hn9⟩ := hs)
      exact hK.out _ _ ⟨_, by first | (simp only [Act.put, List.setIfInBounds_toArray, List.set_cons_zero, List.set_cons_succ]; done) | simp only [Act.put, List.setIfInBounds_toArray, List.set_cons_zero, List.set_cons_succ, *], g9, hn9⟩
    refine Eaches.cons rfl ?_ ?_
    · intro W hW hD K hK
      have h3 := Deps.get (v := v3) 3 hD rfl rfl (by kernel_rfl)
      clear hD
      go_simp
      exact hK.out _ _ ⟨_, by first | (simp only [Act.put, List.setIfInBounds_toArray, List.set_cons_zero, List.set_cons_succ]; done) | simp only [Act.put, List.setIfInBounds_toArray, List.set_cons_zero, List.set_cons_succ, *], G.refl _, h3⟩
    refine Eaches.cons rfl ?_ ?_
    · intro W hW hD K hK
      have h7 := Deps.get (v := v7) 7 hD rfl rfl (by kernel_rfl)
      clear hD
      go_simp
      exact hK.out _ _ ⟨_, by first | (simp only [Act.put, List.setIfInBounds_toArray, List.set_cons_zero, List.set_cons_succ]; done) | simp only [Act.put, List.setIfInBounds_toArray, List.set_cons_zero, List.set_cons_succ, *], G.refl _, h7⟩
    exact Eaches.nil
  intro w2 g2 hH
  have h8 := Helds.get (v := v8) 8 hH rfl rfl
  have h9 := Helds.get (v := v9) 9 hH rfl rfl
  clear hH
  refine wpAny_done (by kernel_rfl) ?_ _
  have S8 : Hid (Num w2 v8 A) := h8
  have S9 : Hid (Num w2 v9 B) := h9
  have S5' : Hid (Num w2 vs s) := S5.out.G g2
  have g02 := G.trans g01 g2
  have T0 : Hid (Rec _ _ _) := Rec.G S0.out (g2)
  have T1 : Hid (Rec _ _ _) := Rec.G S1.out (g2)
  have T2 : Hid (Rec _ _ _) := Rec.G S2.out (g2)
  generalize v8 = va at *
  generalize v9 = vb at *
  clear h8 h9 S5 S0 S1 S2 g01 g2 HO1 HO2 HBX HBY
  go_wp2_with fail
  refine region_each 11 1 #[true, true, true, true, true, true, true, true, true, true, true, false] [.is (.func (.func 120) #[] #[]), .is (.pointer (some ⟨w.heap.size, 0, none⟩)), .is (.agg #[.bool sx, .slice a k c]), .is (vb), .any (fun v w' => WholeIs w' v (X)), .is (.pointer (some ⟨w.heap.size + 1, 0, none⟩)), .is (.agg #[.bool sy, .slice b j e]), .is (va), .any (fun v w' => WholeIs w' v (Y)), .any (fun v w' => WholeIs w' v (T)), .any (fun v w' => NewRec w2 w' v ([.bool false, .slice none 0 0]))] [some 25, some 26, some 27, some 28, some 29, some 30, some 31, some 32, some 33, some 34, some 10] (by kernel_rfl) (by kernel_rfl) rfl (by kernel_rfl) (by repeat (first | exact trivial | refine ⟨fun _ _ _ g h => by first | exact h.G g | exact fun w3 g3 => h w3 (G.trans g g3), ?_⟩)) (by kernel_rfl) (by kernel_rfl) ?_
  refine Letters.is ?_
  refine Letters.is ?_
  refine Letters.is ?_
  refine Letters.is ?_
  refine Letters.any fun v4 => ?_
  refine Letters.is ?_
  refine Letters.is ?_
  refine Letters.is ?_
  refine Letters.any fun v8 => ?_
  refine Letters.any fun v9 => ?_
  refine Letters.any fun v10 => ?_
  refine Letters.nil ?_
  intro A hA
  simp only [fillD, Act.put, List.setIfInBounds_toArray, List.set_cons_zero, List.set_cons_succ] at hA
  subst hA
  refine ⟨?_, ?_⟩
  · skip
    refine Eaches.cons rfl ?_ ?_
    · intro W hW hD K hK
      clear hD
      go_simp
      exact hK.out _ _ ⟨_, by first | (simp only [Act.put, List.setIfInBounds_toArray, List.set_cons_zero, List.set_cons_succ]; done) | simp only [Act.put, List.setIfInBounds_toArray, List.set_cons_zero, List.set_cons_succ, *], G.refl _, rfl⟩
    refine Eaches.cons rfl ?_ ?_
    · intro W hW hD K hK
      clear hD
      go_simp
      exact hK.out _ _ ⟨_, by first | (simp only [Act.put, List.setIfInBounds_toArray, List.set_cons_zero, List.set_cons_succ]; done) | simp only [Act.put, List.setIfInBounds_toArray, List.set_cons_zero, List.set_cons_succ, *], G.refl _, rfl⟩
    refine Eaches.cons rfl ?_ ?_
    · intro W hW hD K hK
      clear hD
      have hT0 := Rec.f3 (Rec.G T0.out hW)
      have hT0_0 := hT0.1
      have hT0_1 := hT0.2.1
      have hT0_2 := hT0.2.2.1
      clear hT0
      have hT1 := Rec.f3 (Rec.G T1.out hW)
      have hT1_0 := hT1.1
      have hT1_1 := hT1.2.1
      have hT1_2 := hT1.2.2.1
      clear hT1
      go_simp
      exact hK.out _ _ ⟨_, by first | (simp only [Act.put, List.setIfInBounds_toArray, List.set_cons_zero, List.set_cons_succ]; done) | simp only [Act.put, List.setIfInBounds_toArray, List.set_cons_zero, List.set_cons_succ, *], G.refl _, rfl⟩
    refine Eaches.cons rfl ?_ ?_
    · intro W hW hD K hK
      clear hD
      go_simp
      exact hK.out _ _ ⟨_, by first | (simp only [Act.put, List.setIfInBounds_toArray, List.set_cons_zero, List.set_cons_succ]; done) | simp only [Act.put, List.setIfInBounds_toArray, List.set_cons_zero, List.set_cons_succ, *], G.refl _, rfl⟩
    refine Eaches.cons rfl ?_ ?_
    · intro W hW hD K hK
      clear hD
      go_simp
      go_wp2_with (go_at_call 102; refine Calls.mono (P := Tryz.prog) (HT1.out W vb (G.trans g02 hW) (S9.out.G hW)) ?_; intro e w9 hs; obtain ⟨u9, rfl, g9, hn9⟩ := hs)
      exact hK.out _ _ ⟨_, by first | (simp only [Act.put, List.setIfInBounds_toArray, List.set_cons_zero, List.set_cons_succ]; done) | simp only [Act.put, List.setIfInBounds_toArray, List.set_cons_zero, List.set_cons_succ, *], g9, hn9⟩
    refine Eaches.cons rfl ?_ ?_
    · intro W hW hD K hK
      clear hD
      go_simp
      exact hK.out _ _ ⟨_, by first | (simp only [Act.put, List.setIfInBounds_toArray, List.set_cons_zero, List.set_cons_succ]; done) | simp only [Act.put, List.setIfInBounds_toArray, List.set_cons_zero, List.set_cons_succ, *], G.refl _, rfl⟩
    refine Eaches.cons rfl ?_ ?_
    · intro W hW hD K hK
      clear hD
      have hT0 := Rec.f3 (Rec.G T0.out hW)
      have hT0_0 := hT0.1
      have hT0_1 := hT0.2.1
      have hT0_2 := hT0.2.2.1
      clear hT0
      have hT1 := Rec.f3 (Rec.G T1.out hW)
      have hT1_0 := hT1.1
      have hT1_1 := hT1.2.1
      have hT1_2 := hT1.2.2.1
      clear hT1
      go_simp
      exact hK.out _ _ ⟨_, by first | (simp only [Act.put, List.setIfInBounds_toArray, List.set_cons_zero, List.set_cons_succ]; done) | simp only [Act.put, List.setIfInBounds_toArray, List.set_cons_zero, List.set_cons_succ, *], G.refl _, rfl⟩
    refine Eaches.cons rfl ?_ ?_
    · intro W hW hD K hK
      clear hD
      go_simp
      exact hK.out _ _ ⟨_, by first | (simp only [Act.put, List.setIfInBounds_toArray, List.set_cons_zero, List.set_cons_succ]; done) | simp only [Act.put, List.setIfInBounds_toArray, List.set_cons_zero, List.set_cons_succ, *], G.refl _, rfl⟩
    refine Eaches.cons rfl ?_ ?_
    · intro W hW hD K hK
      clear hD
      go_simp
      go_wp2_with (go_at_call 102; refine Calls.mono (P := Tryz.prog) (HT2.out W va (G.trans g02 hW) (S8.out.G hW)) ?_; intro e w9 hs; obtain ⟨u9, rfl, g9, hn9⟩ := hs)
      exact hK.out _ _ ⟨_, by first | (simp only [Act.put, List.setIfInBounds_toArray, List.set_cons_zero, List.set_cons_succ]; done) | simp only [Act.put, List.setIfInBounds_toArray, List.set_cons_zero, List.set_cons_succ, *], g9, hn9⟩
    refine Eaches.cons rfl ?_ ?_
    · intro W hW hD K hK
      have h4 := Deps.get (v := v4) 4 hD rfl rfl (by kernel_rfl)
      have h8 := Deps.get (v := v8) 8 hD rfl rfl (by kernel_rfl)
      clear hD
      go_simp
      go_wp2_with (go_at_call 120; refine Calls.mono (P := Tryz.prog) (HP.out W v4 v8 h4 h8) ?_; intro e w9 hs; obtain ⟨u9, rfl, g9, hn9⟩ := hs)
      exact hK.out _ _ ⟨_, by first | (simp only [Act.put, List.setIfInBounds_toArray, List.set_cons_zero, List.set_cons_succ]; done) | simp only [Act.put, List.setIfInBounds_toArray, List.set_cons_zero, List.set_cons_succ, *], g9, hn9⟩
    refine Eaches.cons rfl ?_ ?_
    · intro W hW hD K hK
      clear hD
      go_simp
      exact hK.out _ _ ⟨_, by first | (simp only [Act.put, List.setIfInBounds_toArray, List.set_cons_zero, List.set_cons_succ]; done) | simp only [Act.put, List.setIfInBounds_toArray, List.set_cons_zero, List.set_cons_succ, *], (G.refl _).alloc _, _, rfl, hW.size, Rec.new2 _ _ _ _⟩
    exact Eaches.nil
  intro w3 g3 hH
  have h9 := Helds.get (v := v9) 9 hH rfl rfl
  have h10 := Helds.get (v := v10) 10 hH rfl rfl
  clear hH
  obtain ⟨nb, rfl, hnb, hr10⟩ := h10
  obtain ⟨d1, d2, d3, rfl, hm9⟩ := h9
  rw [← HTS.out]
  have N0 : Hid (Rec w3 nb [.bool false, .slice none 0 0]) := hr10
  have S10 : Hid (Num _ (.slice d1 d2 d3) T.natAbs) := num_set2 (u1 := .bool t) (u2 := .slice d1 d2 d3) hm9 hr10 trivial trivial
  clear hr10 hm9 HP HT1 HT2
  have hS := Rec.f2 (Rec.G N0.out ((G.refl _)))
  have hS_0 := hS.1
  have hS_1 := hS.2.1
  have hS_2 := hS.2.2.1
  have hS_3 := hS.2.2.2
  clear hS
  refine wpAny_ready (rs := [11]) (by kernel_rfl) (by simp) ?_
  refine AllReady.cons rfl (fun K hK => ?_) AllReady.nil
  go_simp
  refine hK _ _ ?_
  clear hK K hS_0 hS_1 hS_2 hS_3
  refine wpAny_done (by kernel_rfl) ?_ _
  have N1 : Hid (Rec _ nb [.bool t, .slice d1 d2 d3]) := Rec.set2 N0.out
  have g4 := Rec.g2 (b := nb) (u := .bool t) (v := .slice d1 d2 d3) g3 hnb
  generalize ((w3.setCell ⟨nb, 0, none⟩ (.bool t)).setCell ⟨nb, 1, none⟩ (.slice d1 d2 d3)) = w4 at *
  have g04 := G.trans g02 g4
  have U2 : Hid (Rec _ _ _) := Rec.G T2.out (g4)
  have S5 : Hid (Num w4 vs s) := S5'.out.G g4
  have S8' : Hid (Num w4 va A) := S8.out.G g4
  have S9' : Hid (Num w4 vb B) := S9.out.G g4
  have HC4 : Hid _ := HC2.out w4 (.slice d1 d2 d3) vs g04 S10.out S5.out
  have hnw : w.heap.size ≤ nb := Nat.le_trans g02.size hnb
  clear T0 T1 T2 N0 S5' S8 S9 g02 g3 g4 hnb HC2
  have hSN1 := Rec.f2 (Rec.G N1.out (G.refl _))
  have hSN1_0 := hSN1.1
  have hSN1_1 := hSN1.2.1
  have hSN1_2 := hSN1.2.2.1
  have hSN1_3 := hSN1.2.2.2
  clear hSN1
  go_wp2_with fail
  refine Calls.mono (P := Tryz.prog) HC4.out ?_
  intro e4 w5 hs
  obtain ⟨vr, rfl, g5, hvr⟩ := hs
  have HO5 : Hid _ := HO3.out w5 (.slice d1 d2 d3) vr (S10.out.G g5) hvr
  have SR : Hid (Num w5 vr r) := hvr
  clear HC4 HO3 hvr hSN1_0 hSN1_1 hSN1_2 hSN1_3
  have hSN1 := Rec.f2 (Rec.G N1.out (g5))
  have hSN1_0 := hSN1.1
  have hSN1_1 := hSN1.2.1
  have hSN1_2 := hSN1.2.2.1
  have hSN1_3 := hSN1.2.2.2
  clear hSN1
  go_wp2_with fail
  refine Calls.mono (P := Tryz.prog) HO5.out ?_
  intro e4 w6 hs
  obtain ⟨vt, rfl, g6, hvt⟩ := hs
  obtain ⟨f1, f2, f3, rfl, -⟩ := num_zero hvt
  have SR' : Hid (Num w6 vr r) := SR.out.G g6
  have ST : Hid (Num (w6.setCell ⟨nb, 1, none⟩ (.slice f1 f2 f3)) (.slice f1 f2 f3) tr) := num_set1 hvt (Rec.G (Rec.G N1.out g5) g6) trivial trivial
  have g46 := G.trans g5 g6
  have SA : Hid (Num (w6.setCell ⟨nb, 1, none⟩ (.slice f1 f2 f3)) va A) := num_set1 (S8'.out.G g46) (Rec.G N1.out g46) trivial trivial
  have SB : Hid (Num (w6.setCell ⟨nb, 1, none⟩ (.slice f1 f2 f3)) vb B) := num_set1 (S9'.out.G g46) (Rec.G N1.out g46) trivial trivial
  have SS : Hid (Num (w6.setCell ⟨nb, 1, none⟩ (.slice f1 f2 f3)) vs s) := num_set1 (S5.out.G g46) (Rec.G N1.out g46) trivial trivial
  have SQ : Hid (Num (w6.setCell ⟨nb, 1, none⟩ (.slice f1 f2 f3)) vr r) := num_set1 SR'.out (Rec.G N1.out g46) trivial trivial
  have N2 : Hid (Rec (w6.setCell ⟨nb, 1, none⟩ (.slice f1 f2 f3)) nb [.bool t, .slice f1 f2 f3]) := (Rec.G N1.out g46).set 1 _
  have V2 : Hid (Rec (w6.setCell ⟨nb, 1, none⟩ (.slice f1 f2 f3)) (w.heap.size + 2) [.bool false, .slice none 0 0, .slice none 0 0]) := (Rec.G U2.out g46).oth (p := ⟨nb, 1, none⟩) _ (rec_ne N1.out U2.out)
  have g7 : G w (w6.setCell ⟨nb, 1, none⟩ (.slice f1 f2 f3)) := (G.trans g04 g46).setCell (p := ⟨nb, 1, none⟩) hnw _
  clear HO5 hvt hSN1_0 hSN1_1 hSN1_2 hSN1_3 SR SR' S5 S8' S9' g04 hnw S10 U2
  have hSN1 := Rec.f2 (Rec.G N1.out (g46))
  have hSN1_0 := hSN1.1
  have hSN1_1 := hSN1.2.1
  have hSN1_2 := hSN1.2.2.1
  have hSN1_3 := hSN1.2.2.2
  clear hSN1
  clear g5 g6 g46
  go_wp2_with fail
  generalize w6.setCell ⟨nb, 1, none⟩ (.slice f1 f2 f3) = w7 at *
  clear hSN1_0 hSN1_1 hSN1_2 hSN1_3 N1
  refine region_each 9 1 #[true, true, true, true, true, true, true, true, true, false] [.is (.agg #[.bool t, .slice f1 f2 f3]), .is (va), .is (vb), .any (fun v w' => Num w' v (N)), .is (vs), .is (vr), .any (fun v w' => Num w' v (sr)), .any (fun v w' => Num w' v (M)), .any (fun v w' => QIs w' v (z))] [some 44, some 45, some 46, some 47, some 48, some 49, some 50, some 51, some 52] (by kernel_rfl) (by kernel_rfl) rfl (by kernel_rfl) (by repeat (first | exact trivial | refine ⟨fun _ _ _ g h => by first | exact h.G g | exact fun w3 g3 => h w3 (G.trans g g3), ?_⟩)) (by kernel_rfl) (by kernel_rfl) ?_
  refine Letters.is ?_
  refine Letters.is ?_
  refine Letters.is ?_
  refine Letters.any fun v3 => ?_
  refine Letters.is ?_
  refine Letters.is ?_
  refine Letters.any fun v6 => ?_
  refine Letters.any fun v7 => ?_
  refine Letters.any fun v8 => ?_
  refine Letters.nil ?_
  intro A hA
  simp only [fillD, Act.put, List.setIfInBounds_toArray, List.set_cons_zero, List.set_cons_succ] at hA
  subst hA
  refine ⟨?_, ?_⟩
  · skip
    refine Eaches.cons rfl ?_ ?_
    · intro W hW hD K hK
      clear hD
      have hN2 := Rec.f2 (Rec.G N2.out hW)
      have hN2_0 := hN2.1
      have hN2_1 := hN2.2.1
      clear hN2
      go_simp
      exact hK.out _ _ ⟨_, by first | (simp only [Act.put, List.setIfInBounds_toArray, List.set_cons_zero, List.set_cons_succ]; done) | simp only [Act.put, List.setIfInBounds_toArray, List.set_cons_zero, List.set_cons_succ, *], G.refl _, rfl⟩
    refine Eaches.cons rfl ?_ ?_
    · intro W hW hD K hK
      clear hD
      go_simp
      exact hK.out _ _ ⟨_, by first | (simp only [Act.put, List.setIfInBounds_toArray, List.set_cons_zero, List.set_cons_succ]; done) | simp only [Act.put, List.setIfInBounds_toArray, List.set_cons_zero, List.set_cons_succ, *], G.refl _, rfl⟩
    refine Eaches.cons rfl ?_ ?_
    · intro W hW hD K hK
      clear hD
      go_simp
      exact hK.out _ _ ⟨_, by first | (simp only [Act.put, List.setIfInBounds_toArray, List.set_cons_zero, List.set_cons_succ]; done) | simp only [Act.put, List.setIfInBounds_toArray, List.set_cons_zero, List.set_cons_succ, *], G.refl _, rfl⟩
    refine Eaches.cons rfl ?_ ?_
    · intro W hW hD K hK
      clear hD
      go_simp
      go_wp2_with (go_at_call 99; refine Calls.mono (P := Tryz.prog) (HM1.out W va vb (SA.out.G hW) (SB.out.G hW)) ?_; intro e w9 hs; obtain ⟨u9, rfl, g9, hn9⟩ := hs)
      exact hK.out _ _ ⟨_, by first | (simp only [Act.put, List.setIfInBounds_toArray, List.set_cons_zero, List.set_cons_succ]; done) | simp only [Act.put, List.setIfInBounds_toArray, List.set_cons_zero, List.set_cons_succ, *], g9, hn9⟩
    refine Eaches.cons rfl ?_ ?_
    · intro W hW hD K hK
      clear hD
      go_simp
      exact hK.out _ _ ⟨_, by first | (simp only [Act.put, List.setIfInBounds_toArray, List.set_cons_zero, List.set_cons_succ]; done) | simp only [Act.put, List.setIfInBounds_toArray, List.set_cons_zero, List.set_cons_succ, *], G.refl _, rfl⟩
    refine Eaches.cons rfl ?_ ?_
    · intro W hW hD K hK
      clear hD
      go_simp
      exact hK.out _ _ ⟨_, by first | (simp only [Act.put, List.setIfInBounds_toArray, List.set_cons_zero, List.set_cons_succ]; done) | simp only [Act.put, List.setIfInBounds_toArray, List.set_cons_zero, List.set_cons_succ, *], G.refl _, rfl⟩
    refine Eaches.cons rfl ?_ ?_
    · intro W hW hD K hK
      clear hD
      go_simp
      go_wp2_with (go_at_call 98; refine Calls.mono (P := Tryz.prog) (HO4.out W vs vr (SS.out.G hW) (SQ.out.G hW)) ?_; intro e w9 hs; obtain ⟨u9, rfl, g9, hn9⟩ := hs)
      exact hK.out _ _ ⟨_, by first | (simp only [Act.put, List.setIfInBounds_toArray, List.set_cons_zero, List.set_cons_succ]; done) | simp only [Act.put, List.setIfInBounds_toArray, List.set_cons_zero, List.set_cons_succ, *], g9, hn9⟩
    refine Eaches.cons rfl ?_ ?_
    · intro W hW hD K hK
      have h3 := Deps.get (v := v3) 3 hD rfl rfl (by kernel_rfl)
      have h6 := Deps.get (v := v6) 6 hD rfl rfl (by kernel_rfl)
      clear hD
      go_simp
      go_wp2_with (go_at_call 99; refine Calls.mono (P := Tryz.prog) (HM2.out W v3 v6 h3 h6) ?_; intro e w9 hs; obtain ⟨u9, rfl, g9, hn9⟩ := hs)
      exact hK.out _ _ ⟨_, by first | (simp only [Act.put, List.setIfInBounds_toArray, List.set_cons_zero, List.set_cons_succ]; done) | simp only [Act.put, List.setIfInBounds_toArray, List.set_cons_zero, List.set_cons_succ, *], g9, hn9⟩
    refine Eaches.cons rfl ?_ ?_
    · intro W hW hD K hK
      have h7 := Deps.get (v := v7) 7 hD rfl rfl (by kernel_rfl)
      clear hD
      go_simp
      go_wp2_with (go_at_call 100; refine Calls.mono (P := Tryz.prog) (HF.out W f1 f2 f3 v7 (ST.out.G hW) h7) ?_; intro e w9 hs; obtain ⟨u9, rfl, g9, hn9⟩ := hs)
      exact hK.out _ _ ⟨_, by first | (simp only [Act.put, List.setIfInBounds_toArray, List.set_cons_zero, List.set_cons_succ]; done) | simp only [Act.put, List.setIfInBounds_toArray, List.set_cons_zero, List.set_cons_succ, *], g9, hn9⟩
    exact Eaches.nil
  intro w8 g8 hH
  have h8 := Helds.get (v := v8) 8 hH rfl rfl
  clear hH
  clear HM1 HM2 HO4 HF SA SB SS SQ ST N2
  obtain ⟨a8, k8, c8, a9, k9, c9, rfl, hm8, hm9⟩ := h8
  have HN8 : Hid (Num w8 (.slice a8 k8 c8) (z).num.natAbs) := hm8
  have HN9 : Hid (Num w8 (.slice a9 k9 c9) (lowOf (z).den)) := hm9
  obtain ⟨t9, ht9⟩ : ∃ t, t = decide ((z).num < 0) := ⟨_, rfl⟩
  rw [← ht9]
  have HT9 : Hid (t9 = decide ((z).num < 0)) := ht9
  clear hm8 hm9 ht9
  have hS := Rec.f3 (Rec.G V2.out (g8))
  have hS_0 := hS.1
  have hS_1 := hS.2.1
  have hS_2 := hS.2.2.1
  have hS_3 := hS.2.2.2.1
  have hS_4 := hS.2.2.2.2.1
  have hS_5 := hS.2.2.2.2.2
  clear hS
  refine wpAny_ready (rs := [9]) (by kernel_rfl) (by simp) ?_
  refine AllReady.cons rfl (fun K hK => ?_) AllReady.nil
  go_simp
  refine hK _ _ ?_
  clear hK K hS_0 hS_1 hS_2 hS_3 hS_4 hS_5
  refine wpAny_done (by kernel_rfl) ?_ _
  have HN8' : Num _ _ _ := num_set3 (u1 := .bool t9) (u2 := .slice a8 k8 c8) (u3 := .slice a9 k9 c9) HN8.out (Rec.G V2.out (g8)) trivial trivial trivial
  have HN9' : Num _ _ _ := num_set3 (u1 := .bool t9) (u2 := .slice a8 k8 c8) (u3 := .slice a9 k9 c9) HN9.out (Rec.G V2.out (g8)) trivial trivial trivial
  go_wp2_with fail
  have hT : Hid (Rec (World.setCell (World.setCell (World.setCell w8 ⟨w.heap.size + 2, 0, none⟩ (.bool t9)) ⟨w.heap.size + 2, 1, none⟩ (.slice a8 k8 c8)) ⟨w.heap.size + 2, 2, none⟩ (.slice a9 k9 c9)) (w.heap.size + 2) [.bool t9, .slice a8 k8 c8, .slice a9 k9 c9]) := Rec.set3 (Rec.G V2.out (g8))
  have g9 := Rec.g3 (b := w.heap.size + 2) (u := .bool t9) (v := .slice a8 k8 c8) (x := .slice a9 k9 c9) (G.trans g7 g8) (by omega)
  generalize (World.setCell (World.setCell (World.setCell w8 ⟨w.heap.size + 2, 0, none⟩ (.bool t9)) ⟨w.heap.size + 2, 1, none⟩ (.slice a8 k8 c8)) ⟨w.heap.size + 2, 2, none⟩ (.slice a9 k9 c9)) = w9 at *
  have hF := Rec.f3 (Rec.G hT.out ((G.refl _)))
  have hF_0 := hF.1
  have hF_1 := hF.2.1
  have hF_2 := hF.2.2.1
  have hF_3 := hF.2.2.2.1
  have hF_4 := hF.2.2.2.2.1
  have hF_5 := hF.2.2.2.2.2
  clear hF
  refine bodyPost_ret (v := .agg #[.bool t9, .slice a8 k8 c8, .slice a9 k9 c9]) (by simp [results, Tryz.results119, go_sem, *]) rfl ?_
  exact ⟨_, rfl, g9, a8, k8, c8, a9, k9, c9, by rw [← HT9.out], HN8', HN9'⟩

set_option maxHeartbeats 2000000 in
theorem joined_minus (w : World) (v u : Value) (x y : Rat) (K : Nat) (hK : K ≤ 40000) (hK1 : 1 ≤ K) (hTb : Tab w) (hx : QIs w v x) (hy : QIs w u y) (bx : QB x K) (by_ : QB y K) :
    Calls Tryz.prog 119 #[v, u, .func (.func 103) #[] #[]] w (RetQ w (x - y)) := by
  have HBX : Hid (∀ w1, G w w1 → _) := fun w1 g => bar_c w1 v x (hx.G g)
  have HBY : Hid (∀ w1, G w w1 → _) := fun w1 g => bar_c w1 u y (hy.G g)
  obtain ⟨a, k, c, a', k', c', rfl, hx1, hx2⟩ := hx
  obtain ⟨b, j, e, b', j', e', rfl, hy1, hy2⟩ := hy
  have hxd := x.den_pos
  have hyd := y.den_pos
  obtain ⟨s, hs⟩ : ∃ s, s = Nat.gcd x.den y.den := ⟨_, rfl⟩
  have hs0 : 0 < s := by rw [hs]; exact Nat.gcd_pos_of_pos_left _ hxd
  have hsb : s < 2 ^ (64 * K) := Nat.lt_of_le_of_lt (by rw [hs]; exact Nat.gcd_le_left _ hxd) bx.2
  obtain ⟨T, hT⟩ : ∃ T : Int, T = x.num * ((y.den / s : Nat) : Int) - y.num * ((x.den / s : Nat) : Int) := ⟨_, rfl⟩
  obtain ⟨r, hr⟩ : ∃ r, r = Nat.gcd T.natAbs s := ⟨_, rfl⟩
  obtain ⟨t, ht⟩ : ∃ t, t = decide (T < 0) := ⟨_, rfl⟩
  have hr0 : 0 < r := by rw [hr]; exact Nat.gcd_pos_of_pos_right _ hs0
  have hrb : r ≤ s := by rw [hr]; exact Nat.gcd_le_right _ hs0
  have hval := join_val (x := x) (y := y) (op := fun p q => p - q) (z := x - y) (Rat.sub_def' x y) (fun p q k => Int.sub_mul p q k) hs hT hr t ht
  have hlow := join_low (x := x) (y := y) (op := fun p q => p - q) (fun p q g h1 h2 => by
      have h3 := Int.dvd_add h2 h1; rwa [show p - q + q = p from by omega] at h3) (fun p q g h1 h2 => by
      have h3 := Int.dvd_sub h1 h2; rwa [show p - (p - q) = q from by omega] at h3) hs hT hr
  have hsgx : sgn (decide (x.num < 0)) x.num.natAbs = x.num := sgn_abs _
  have hsgy : sgn (decide (y.num < 0)) y.num.natAbs = y.num := sgn_abs _
  obtain ⟨p, hp⟩ : ∃ p, p = x.den := ⟨_, rfl⟩
  obtain ⟨q, hq⟩ : ∃ q, q = y.den := ⟨_, rfl⟩
  obtain ⟨A, hA⟩ : ∃ A, A = x.den / s := ⟨_, rfl⟩
  obtain ⟨B, hB⟩ : ∃ B, B = y.den / s := ⟨_, rfl⟩
  have bA : A < 2 ^ (64 * K) := Nat.lt_of_le_of_lt (by rw [hA]; exact Nat.div_le_self _ _) bx.2
  have bB : B < 2 ^ (64 * K) := Nat.lt_of_le_of_lt (by rw [hB]; exact Nat.div_le_self _ _) by_.2
  have A0 : 0 < A := by rw [hA]; exact Nat.div_pos (by rw [hs]; exact Nat.gcd_le_left _ hxd) hs0
  have B0 : 0 < B := by rw [hB]; exact Nat.div_pos (by rw [hs]; exact Nat.gcd_le_right _ hyd) hs0
  have HC1 : Hid (∀ w1 v1 v2, G w w1 → Num w1 v1 p → Num w1 v2 q → Calls Tryz.prog 96 #[v1, v2] w1 (RetNum w1 s)) := fun w1 v1 v2 g h1 h2 => by
    rw [hs, ← hp, ← hq]; exact common_c w1 v1 v2 p q K (by omega) hK1 (hTb.G g) h1 h2 (by rw [hp]; exact bx.2) (by rw [hq]; exact by_.2)
  have HO1 : Hid (∀ w1 v1 v2, Num w1 v1 p → Num w1 v2 s → Calls Tryz.prog 98 #[v1, v2] w1 (RetNum w1 A)) := fun w1 v1 v2 h1 h2 => by
    rw [hA, ← hp]; exact over_c w1 v1 v2 p s K (by omega) hK1 h1 h2 (by rw [hp]; exact bx.2) hsb hs0
  have HO2 : Hid (∀ w1 v1 v2, Num w1 v1 q → Num w1 v2 s → Calls Tryz.prog 98 #[v1, v2] w1 (RetNum w1 B)) := fun w1 v1 v2 h1 h2 => by
    rw [hB, ← hq]; exact over_c w1 v1 v2 q s K (by omega) hK1 h1 h2 (by rw [hq]; exact by_.2) hsb hs0
  rw [← hA, ← hB] at hT hval hlow
  have HT1 : Hid (∀ w1 v1, G w w1 → Num w1 v1 B → Calls Tryz.prog 102 #[.agg #[.bool (decide (x.num < 0)), .slice a k c], v1] w1 (RetWhole w1 (x.num * B))) := fun w1 v1 g h => by
    have h := wtimes_c w1 (.agg #[.bool (decide (x.num < 0)), .slice a k c]) v1 _ _ _ K (by omega) ⟨a, k, c, rfl, hx1.G g⟩ h bx.1 bB
    rw [hsgx] at h; exact h
  have HT2 : Hid (∀ w1 v1, G w w1 → Num w1 v1 A → Calls Tryz.prog 102 #[.agg #[.bool (decide (y.num < 0)), .slice b j e], v1] w1 (RetWhole w1 (y.num * A))) := fun w1 v1 g h => by
    have h := wtimes_c w1 (.agg #[.bool (decide (y.num < 0)), .slice b j e]) v1 _ _ _ K (by omega) ⟨b, j, e, rfl, hy1.G g⟩ h by_.1 bA
    rw [hsgy] at h; exact h
  have q1 : (x.num * (B : Int)).natAbs < 2 ^ (64 * (K + K)) := by rw [Int.natAbs_mul]; exact lt_mul_pow bx.1 bB
  have q2 : (y.num * (A : Int)).natAbs < 2 ^ (64 * (K + K)) := by rw [Int.natAbs_mul]; exact lt_mul_pow by_.1 bA
  have bT : T.natAbs < 2 ^ (64 * (2 * K + 1)) := by
    have h1 : 2 ^ (64 * (2 * K + 1)) = 2 ^ (64 * (K + K)) * 2 ^ 64 := by rw [← Nat.pow_add]; congr 1; omega
    rw [hT, h1]
    generalize x.num * (B : Int) = X at *
    generalize y.num * (A : Int) = Y at *
    generalize 2 ^ (64 * (K + K)) = P at *
    omega
  obtain ⟨X, hX⟩ : ∃ X : Int, X = x.num * B := ⟨_, rfl⟩
  obtain ⟨Y, hY⟩ : ∃ Y : Int, Y = y.num * A := ⟨_, rfl⟩
  rw [← hX] at HT1 q1 hT
  rw [← hY] at HT2 q2 hT
  have HP : Hid (∀ w1 v1 v2, WholeIs w1 v1 X → WholeIs w1 v2 Y → Calls Tryz.prog 103 #[v1, v2] w1 (RetWhole w1 T)) := fun w1 v1 v2 h1 h2 => by
    have h := wminus_c w1 v1 v2 _ _ _ _ (K + K) (by omega) h1 h2 q1 q2
    rw [sgn_abs, sgn_abs, ← hT] at h; exact h
  have HC2 : Hid (∀ w1 v1 v2, G w w1 → Num w1 v1 T.natAbs → Num w1 v2 s → Calls Tryz.prog 96 #[v1, v2] w1 (RetNum w1 r)) := fun w1 v1 v2 g h1 h2 => by
    rw [hr]; exact common_c w1 v1 v2 _ s (2 * K + 1) (by omega) (by omega) (hTb.G g) h1 h2 bT (Nat.lt_of_lt_of_le hsb (Nat.pow_le_pow_right (by omega) (by omega)))
  have HO3 : Hid (∀ w1 v1 v2, Num w1 v1 T.natAbs → Num w1 v2 r → _) := fun w1 v1 v2 h1 h2 => over_c w1 v1 v2 _ r (2 * K + 1) (by omega) (by omega) h1 h2 bT (Nat.lt_of_le_of_lt hrb (Nat.lt_of_lt_of_le hsb (Nat.pow_le_pow_right (by omega) (by omega)))) hr0
  have HO4 : Hid (∀ w1 v1 v2, Num w1 v1 s → Num w1 v2 r → _) := fun w1 v1 v2 h1 h2 => over_c w1 v1 v2 s r K (by omega) hK1 h1 h2 hsb (Nat.lt_of_le_of_lt hrb hsb) hr0
  have q3 : s / r < 2 ^ (64 * K) := Nat.lt_of_le_of_lt (Nat.div_le_self _ _) hsb
  have q4 : 0 < s / r := Nat.div_pos hrb hr0
  have HM1 : Hid (∀ w1 v1 v2, Num w1 v1 A → Num w1 v2 B → _) := fun w1 v1 v2 h1 h2 => times_c w1 v1 v2 A B K (by omega) h1 h2 bA bB
  have bAB : A * B < 2 ^ (64 * (K + K)) := lt_mul_pow bA bB
  have HM2 : Hid (∀ w1 v1 v2, Num w1 v1 (A * B) → Num w1 v2 (s / r) → _) := fun w1 v1 v2 h1 h2 => times_c w1 v1 v2 (A * B) (s / r) (K + K) (by omega) h1 h2 bAB (Nat.lt_of_lt_of_le q3 (Nat.pow_le_pow_right (by omega) (by omega)))
  have htc : decide (sgn t (T.natAbs / r) < 0) = t := by
    rw [neg_sgn]
    have h1 : r ∣ T.natAbs := by rw [hr]; exact Nat.gcd_dvd_left _ _
    rw [ht]
    by_cases h : T < 0
    · have h2 : 0 < T.natAbs / r := Nat.div_pos (Nat.le_of_dvd (by omega) h1) hr0
      simp [h, h2]
    · simp [h]
  have HF : Hid (∀ w1 d1 d2 d3 v2, Num w1 (.slice d1 d2 d3) (T.natAbs / r) → Num w1 v2 (A * B * (s / r)) → Calls Tryz.prog 100 #[.agg #[.bool t, .slice d1 d2 d3], v2] w1 (RetQ w1 (x - y))) := fun w1 d1 d2 d3 v2 h1 h2 =>
    fraction_c w1 _ v2 (sgn t (T.natAbs / r)) (A * B * (s / r)) ((K + K) + K) (x - y) ⟨d1, d2, d3, by rw [htc], by rw [abs_sgn]; exact h1⟩ h2 (Nat.mul_pos (Nat.mul_pos A0 B0) q4) (lt_mul_pow bAB q3) (fun _ => by rw [abs_sgn]; exact hlow) hval
  have HTS : Hid (t = decide (T < 0)) := ht
  clear hval hlow htc hsgx hsgy hX hY hT hA hB hs hr ht q1 q2 q3 q4 bAB bT bA bB A0 B0 hs0 hsb hr0 hrb hxd hyd bx by_ hTb hx1 hx2 hy1 hy2
  generalize A * B * (s / r) = M at *
  generalize A * B = N at *
  generalize s / r = sr at *
  generalize T.natAbs / r = tr at *
  generalize x - y = z at *
  obtain ⟨sx, hsx⟩ : ∃ sx, sx = decide (x.num < 0) := ⟨_, rfl⟩
  obtain ⟨sy, hsy⟩ : ∃ sy, sy = decide (y.num < 0) := ⟨_, rfl⟩
  rw [← hsx] at HBX HT1
  rw [← hsy] at HBY HT2
  rw [← hsx, ← hsy]
  rw [← hp] at HBX
  rw [← hq] at HBY
  clear hsx hsy hp hq
  go_enter Tryz.func119, Tryz.ntmps119
  go_wp2_with fail
  have g0 : G w (World.alloc (World.alloc (w.alloc (.cells #[.bool sx, .slice a k c, .slice a' k' c'] 96)) (.cells #[.bool sy, .slice b j e, .slice b' j' e'] 96)) (.cells #[.bool false, .slice none 0 0, .slice none 0 0] 96)) := ((((G.refl w).alloc _).alloc _).alloc _)
  have R0 : Hid (Rec (World.alloc (World.alloc (w.alloc (.cells #[.bool sx, .slice a k c, .slice a' k' c'] 96)) (.cells #[.bool sy, .slice b j e, .slice b' j' e'] 96)) (.cells #[.bool false, .slice none 0 0, .slice none 0 0] 96)) (w.heap.size) [.bool sx, .slice a k c, .slice a' k' c']) := by
    have h := Rec.new3 w (.bool sx) (.slice a k c) (.slice a' k' c') 96
    exact (Rec.G (Rec.G h ((G.refl (w.alloc (.cells #[.bool sx, .slice a k c, .slice a' k' c'] 96))).alloc (.cells #[.bool sy, .slice b j e, .slice b' j' e'] 96))) ((G.refl (World.alloc (w.alloc (.cells #[.bool sx, .slice a k c, .slice a' k' c'] 96)) (.cells #[.bool sy, .slice b j e, .slice b' j' e'] 96))).alloc (.cells #[.bool false, .slice none 0 0, .slice none 0 0] 96)))
  have R1 : Hid (Rec (World.alloc (World.alloc (w.alloc (.cells #[.bool sx, .slice a k c, .slice a' k' c'] 96)) (.cells #[.bool sy, .slice b j e, .slice b' j' e'] 96)) (.cells #[.bool false, .slice none 0 0, .slice none 0 0] 96)) (w.heap.size + 1) [.bool sy, .slice b j e, .slice b' j' e']) := by
    have h := Rec.new3 (w.alloc (.cells #[.bool sx, .slice a k c, .slice a' k' c'] 96)) (.bool sy) (.slice b j e) (.slice b' j' e') 96
    rw [show (w.alloc (.cells #[.bool sx, .slice a k c, .slice a' k' c'] 96)).heap.size = w.heap.size + 1 from by simp] at h
    exact (Rec.G h ((G.refl (World.alloc (w.alloc (.cells #[.bool sx, .slice a k c, .slice a' k' c'] 96)) (.cells #[.bool sy, .slice b j e, .slice b' j' e'] 96))).alloc (.cells #[.bool false, .slice none 0 0, .slice none 0 0] 96)))
  have R2 : Hid (Rec (World.alloc (World.alloc (w.alloc (.cells #[.bool sx, .slice a k c, .slice a' k' c'] 96)) (.cells #[.bool sy, .slice b j e, .slice b' j' e'] 96)) (.cells #[.bool false, .slice none 0 0, .slice none 0 0] 96)) (w.heap.size + 2) [.bool false, .slice none 0 0, .slice none 0 0]) := by
    have h := Rec.new3 (World.alloc (w.alloc (.cells #[.bool sx, .slice a k c, .slice a' k' c'] 96)) (.cells #[.bool sy, .slice b j e, .slice b' j' e'] 96)) (.bool false) (.slice none 0 0) (.slice none 0 0) 96
    rw [show (World.alloc (w.alloc (.cells #[.bool sx, .slice a k c, .slice a' k' c'] 96)) (.cells #[.bool sy, .slice b j e, .slice b' j' e'] 96)).heap.size = w.heap.size + 2 from by simp] at h
    exact h
  have hz0 : (World.alloc (World.alloc (w.alloc (.cells #[.bool sx, .slice a k c, .slice a' k' c'] 96)) (.cells #[.bool sy, .slice b j e, .slice b' j' e'] 96)) (.cells #[.bool false, .slice none 0 0, .slice none 0 0] 96)).heap.size = w.heap.size + 3 := by simp
  generalize (World.alloc (World.alloc (w.alloc (.cells #[.bool sx, .slice a k c, .slice a' k' c'] 96)) (.cells #[.bool sy, .slice b j e, .slice b' j' e'] 96)) (.cells #[.bool false, .slice none 0 0, .slice none 0 0] 96)) = w0 at *
  refine region_each 6 0 #[true, true, true, true, true, true] [.is (.agg #[.bool sx, .slice a k c, .slice a' k' c']), .any (fun v w' => Num w' v (p)), .is (.agg #[.bool sy, .slice b j e, .slice b' j' e']), .any (fun v w' => Num w' v (q)), .any (fun v w' => Num w' v (s)), .any (fun v w' => Num w' v (s))] [some 12, some 13, some 14, some 15, some 16, some 7] (by kernel_rfl) (by kernel_rfl) rfl (by kernel_rfl) (by repeat (first | exact trivial | refine ⟨fun _ _ _ g h => by first | exact h.G g | exact fun w3 g3 => h w3 (G.trans g g3), ?_⟩)) (by kernel_rfl) (by kernel_rfl) ?_
  refine Letters.is ?_
  refine Letters.any fun v1 => ?_
  refine Letters.is ?_
  refine Letters.any fun v3 => ?_
  refine Letters.any fun v4 => ?_
  refine Letters.any fun v5 => ?_
  refine Letters.nil ?_
  intro A hA
  simp only [fillD, Act.put, List.setIfInBounds_toArray, List.set_cons_zero, List.set_cons_succ] at hA
  subst hA
  refine ⟨?_, ?_⟩
  · skip
    refine Eaches.cons rfl ?_ ?_
    · intro W hW hD K hK
      clear hD
      have hR0 := Rec.f3 (Rec.G R0.out hW)
      have hR0_0 := hR0.1
      have hR0_1 := hR0.2.1
      have hR0_2 := hR0.2.2.1
      clear hR0
      have hR1 := Rec.f3 (Rec.G R1.out hW)
      have hR1_0 := hR1.1
      have hR1_1 := hR1.2.1
      have hR1_2 := hR1.2.2.1
      clear hR1
      go_simp
      exact hK.out _ _ ⟨_, by first | (simp only [Act.put, List.setIfInBounds_toArray, List.set_cons_zero, List.set_cons_succ]; done) | simp only [Act.put, List.setIfInBounds_toArray, List.set_cons_zero, List.set_cons_succ, *], G.refl _, rfl⟩
    refine Eaches.cons rfl ?_ ?_
    · intro W hW hD K hK
      clear hD
      go_simp
      go_wp2_with (go_at_call 97; refine Calls.mono (P := Tryz.prog) (HBX.out W (G.trans g0 hW)) ?_; intro e w9 hs; obtain ⟨u9, rfl, g9, hn9⟩ := hs)
      exact hK.out _ _ ⟨_, by first | (simp only [Act.put, List.setIfInBounds_toArray, List.set_cons_zero, List.set_cons_succ]; done) | simp only [Act.put, List.setIfInBounds_toArray, List.set_cons_zero, List.set_cons_succ, *], g9, hn9⟩
    refine Eaches.cons rfl ?_ ?_
    · intro W hW hD K hK
      clear hD
      have hR0 := Rec.f3 (Rec.G R0.out hW)
      have hR0_0 := hR0.1
      have hR0_1 := hR0.2.1
      have hR0_2 := hR0.2.2.1
      clear hR0
      have hR1 := Rec.f3 (Rec.G R1.out hW)
      have hR1_0 := hR1.1
      have hR1_1 := hR1.2.1
      have hR1_2 := hR1.2.2.1
      clear hR1
      go_simp
      exact hK.out _ _ ⟨_, by first | (simp only [Act.put, List.setIfInBounds_toArray, List.set_cons_zero, List.set_cons_succ]; done) | simp only [Act.put, List.setIfInBounds_toArray, List.set_cons_zero, List.set_cons_succ, *], G.refl _, rfl⟩
    refine Eaches.cons rfl ?_ ?_
    · intro W hW hD K hK
      clear hD
      go_simp
      go_wp2_with (go_at_call 97; refine Calls.mono (P := Tryz.prog) (HBY.out W (G.trans g0 hW)) ?_; intro e w9 hs; obtain ⟨u9, rfl, g9, hn9⟩ := hs)
      exact hK.out _ _ ⟨_, by first | (simp only [Act.put, List.setIfInBounds_toArray, List.set_cons_zero, List.set_cons_succ]; done) | simp only [Act.put, List.setIfInBounds_toArray, List.set_cons_zero, List.set_cons_succ, *], g9, hn9⟩
    refine Eaches.cons rfl ?_ ?_
    · intro W hW hD K hK
      have h1 := Deps.get (v := v1) 1 hD rfl rfl (by kernel_rfl)
      have h3 := Deps.get (v := v3) 3 hD rfl rfl (by kernel_rfl)
      clear hD
      go_simp
      go_wp2_with (go_at_call 96; refine Calls.mono (P := Tryz.prog) (HC1.out W v1 v3 (G.trans g0 hW) h1 h3) ?_; intro e w9 hs; obtain ⟨u9, rfl, g9, hn9⟩ := hs)
      exact hK.out _ _ ⟨_, by first | (simp only [Act.put, List.setIfInBounds_toArray, List.set_cons_zero, List.set_cons_succ]; done) | simp only [Act.put, List.setIfInBounds_toArray, List.set_cons_zero, List.set_cons_succ, *], g9, hn9⟩
    refine Eaches.cons rfl ?_ ?_
    · intro W hW hD K hK
      have h4 := Deps.get (v := v4) 4 hD rfl rfl (by kernel_rfl)
      clear hD
      go_simp
      exact hK.out _ _ ⟨_, by first | (simp only [Act.put, List.setIfInBounds_toArray, List.set_cons_zero, List.set_cons_succ]; done) | simp only [Act.put, List.setIfInBounds_toArray, List.set_cons_zero, List.set_cons_succ, *], G.refl _, h4⟩
    exact Eaches.nil
  intro w1 g1 hH
  have h5 := Helds.get (v := v5) 5 hH rfl rfl
  clear hH
  refine wpAny_done (by kernel_rfl) ?_ _
  generalize v5 = vs at *
  have S5 : Hid (Num w1 vs s) := h5
  have g01 := G.trans g0 g1
  have S0 : Hid (Rec _ _ _) := Rec.G R0.out (g1)
  have S1 : Hid (Rec _ _ _) := Rec.G R1.out (g1)
  have S2 : Hid (Rec _ _ _) := Rec.G R2.out (g1)
  clear h5 R0 R1 R2 g0 g1 HC1
  go_wp2_with fail
  refine region_each 10 0 #[true, true, true, true, true, true, true, true, true, true] [.is (.agg #[.bool sx, .slice a k c, .slice a' k' c']), .any (fun v w' => Num w' v (p)), .is (vs), .any (fun v w' => Num w' v (A)), .is (.agg #[.bool sy, .slice b j e, .slice b' j' e']), .any (fun v w' => Num w' v (q)), .is (vs), .any (fun v w' => Num w' v (B)), .any (fun v w' => Num w' v (A)), .any (fun v w' => Num w' v (B))] [some 17, some 18, some 19, some 20, some 21, some 22, some 23, some 24, some 8, some 9] (by kernel_rfl) (by kernel_rfl) rfl (by kernel_rfl) (by repeat (first | exact trivial | refine ⟨fun _ _ _ g h => by first | exact h.G g | exact fun w3 g3 => h w3 (G.trans g g3), ?_⟩)) (by kernel_rfl) (by kernel_rfl) ?_
  refine Letters.is ?_
  refine Letters.any fun v1 => ?_
  refine Letters.is ?_
  refine Letters.any fun v3 => ?_
  refine Letters.is ?_
  refine Letters.any fun v5 => ?_
  refine Letters.is ?_
  refine Letters.any fun v7 => ?_
  refine Letters.any fun v8 => ?_
  refine Letters.any fun v9 => ?_
  refine Letters.nil ?_
  intro A hA
  simp only [fillD, Act.put, List.setIfInBounds_toArray, List.set_cons_zero, List.set_cons_succ] at hA
  subst hA
  refine ⟨?_, ?_⟩
  · skip
    refine Eaches.cons rfl ?_ ?_
    · intro W hW hD K hK
      clear hD
      have hS0 := Rec.f3 (Rec.G S0.out hW)
      have hS0_0 := hS0.1
      have hS0_1 := hS0.2.1
      have hS0_2 := hS0.2.2.1
      clear hS0
      have hS1 := Rec.f3 (Rec.G S1.out hW)
      have hS1_0 := hS1.1
      have hS1_1 := hS1.2.1
      have hS1_2 := hS1.2.2.1
      clear hS1
      go_simp
      exact hK.out _ _ ⟨_, by first | (simp only [Act.put, List.setIfInBounds_toArray, List.set_cons_zero, List.set_cons_succ]; done) | simp only [Act.put, List.setIfInBounds_toArray, List.set_cons_zero, List.set_cons_succ, *], G.refl _, rfl⟩
    refine Eaches.cons rfl ?_ ?_
    · intro W hW hD K hK
      clear hD
      go_simp
      go_wp2_with (go_at_call 97; refine Calls.mono (P := Tryz.prog) (HBX.out W (G.trans g01 hW)) ?_; intro e w9 hs; obtain ⟨u9, rfl, g9, hn9⟩ := hs)
      exact hK.out _ _ ⟨_, by first | (simp only [Act.put, List.setIfInBounds_toArray, List.set_cons_zero, List.set_cons_succ]; done) | simp only [Act.put, List.setIfInBounds_toArray, List.set_cons_zero, List.set_cons_succ, *], g9, hn9⟩
    refine Eaches.cons rfl ?_ ?_
    · intro W hW hD K hK
      clear hD
      go_simp
      exact hK.out _ _ ⟨_, by first | (simp only [Act.put, List.setIfInBounds_toArray, List.set_cons_zero, List.set_cons_succ]; done) | simp only [Act.put, List.setIfInBounds_toArray, List.set_cons_zero, List.set_cons_succ, *], G.refl _, rfl⟩
    refine Eaches.cons rfl ?_ ?_
    · intro W hW hD K hK
      have h1 := Deps.get (v := v1) 1 hD rfl rfl (by kernel_rfl)
      clear hD
      go_simp
      go_wp2_with (go_at_call 98; refine Calls.mono (P := Tryz.prog) (HO1.out W v1 vs h1 (S5.out.G hW)) ?_; intro e w9 hs; obtain ⟨u9, rfl, g9, hn9⟩ := hs)
      exact hK.out _ _ ⟨_, by first | (simp only [Act.put, List.setIfInBounds_toArray, List.set_cons_zero, List.set_cons_succ]; done) | simp only [Act.put, List.setIfInBounds_toArray, List.set_cons_zero, List.set_cons_succ, *], g9, hn9⟩
    refine Eaches.cons rfl ?_ ?_
    · intro W hW hD K hK
      clear hD
      have hS0 := Rec.f3 (Rec.G S0.out hW)
      have hS0_0 := hS0.1
      have hS0_1 := hS0.2.1
      have hS0_2 := hS0.2.2.1
      clear hS0
      have hS1 := Rec.f3 (Rec.G S1.out hW)
      have hS1_0 := hS1.1
      have hS1_1 := hS1.2.1
      have hS1_2 := hS1.2.2.1
      clear hS1
      go_simp
      exact hK.out _ _ ⟨_, by first | (simp only [Act.put, List.setIfInBounds_toArray, List.set_cons_zero, List.set_cons_succ]; done) | simp only [Act.put, List.setIfInBounds_toArray, List.set_cons_zero, List.set_cons_succ, *], G.refl _, rfl⟩
    refine Eaches.cons rfl ?_ ?_
    · intro W hW hD K hK
      clear hD
      go_simp
      go_wp2_with (go_at_call 97; refine Calls.mono (P := Tryz.prog) (HBY.out W (G.trans g01 hW)) ?_; intro e w9 hs; obtain ⟨u9, rfl, g9, hn9⟩ := hs)
      exact hK.out _ _ ⟨_, by first | (simp only [Act.put, List.setIfInBounds_toArray, List.set_cons_zero, List.set_cons_succ]; done) | simp only [Act.put, List.setIfInBounds_toArray, List.set_cons_zero, List.set_cons_succ, *], g9, hn9⟩
    refine Eaches.cons rfl ?_ ?_
    · intro W hW hD K hK
      clear hD
      go_simp
      exact hK.out _ _ ⟨_, by first | (simp only [Act.put, List.setIfInBounds_toArray, List.set_cons_zero, List.set_cons_succ]; done) | simp only [Act.put, List.setIfInBounds_toArray, List.set_cons_zero, List.set_cons_succ, *], G.refl _, rfl⟩
    refine Eaches.cons rfl ?_ ?_
    · intro W hW hD K hK
      have h5 := Deps.get (v := v5) 5 hD rfl rfl (by kernel_rfl)
      clear hD
      go_simp
      go_wp2_with (go_at_call 98; refine Calls.mono (P := Tryz.prog) (HO2.out W v5 vs h5 (S5.out.G hW)) ?_; intro e w9 hs; obtain ⟨u9, rfl, g9, hn9⟩ := hs)
      exact hK.out _ _ ⟨_, by first | (simp only [Act.put, List.setIfInBounds_toArray, List.set_cons_zero, List.set_cons_succ]; done) | simp only [Act.put, List.setIfInBounds_toArray, List.set_cons_zero, List.set_cons_succ, *], g9, hn9⟩
    refine Eaches.cons rfl ?_ ?_
    · intro W hW hD K hK
      have h3 := Deps.get (v := v3) 3 hD rfl rfl (by kernel_rfl)
      clear hD
      go_simp
      exact hK.out _ _ ⟨_, by first | (simp only [Act.put, List.setIfInBounds_toArray, List.set_cons_zero, List.set_cons_succ]; done) | simp only [Act.put, List.setIfInBounds_toArray, List.set_cons_zero, List.set_cons_succ, *], G.refl _, h3⟩
    refine Eaches.cons rfl ?_ ?_
    · intro W hW hD K hK
      have h7 := Deps.get (v := v7) 7 hD rfl rfl (by kernel_rfl)
      clear hD
      go_simp
      exact hK.out _ _ ⟨_, by first | (simp only [Act.put, List.setIfInBounds_toArray, List.set_cons_zero, List.set_cons_succ]; done) | simp only [Act.put, List.setIfInBounds_toArray, List.set_cons_zero, List.set_cons_succ, *], G.refl _, h7⟩
    exact Eaches.nil
  intro w2 g2 hH
  have h8 := Helds.get (v := v8) 8 hH rfl rfl
  have h9 := Helds.get (v := v9) 9 hH rfl rfl
  clear hH
  refine wpAny_done (by kernel_rfl) ?_ _
  have S8 : Hid (Num w2 v8 A) := h8
  have S9 : Hid (Num w2 v9 B) := h9
  have S5' : Hid (Num w2 vs s) := S5.out.G g2
  have g02 := G.trans g01 g2
  have T0 : Hid (Rec _ _ _) := Rec.G S0.out (g2)
  have T1 : Hid (Rec _ _ _) := Rec.G S1.out (g2)
  have T2 : Hid (Rec _ _ _) := Rec.G S2.out (g2)
  generalize v8 = va at *
  generalize v9 = vb at *
  clear h8 h9 S5 S0 S1 S2 g01 g2 HO1 HO2 HBX HBY
  go_wp2_with fail
  refine region_each 11 1 #[true, true, true, true, true, true, true, true, true, true, true, false] [.is (.func (.func 103) #[] #[]), .is (.pointer (some ⟨w.heap.size, 0, none⟩)), .is (.agg #[.bool sx, .slice a k c]), .is (vb), .any (fun v w' => WholeIs w' v (X)), .is (.pointer (some ⟨w.heap.size + 1, 0, none⟩)), .is (.agg #[.bool sy, .slice b j e]), .is (va), .any (fun v w' => WholeIs w' v (Y)), .any (fun v w' => WholeIs w' v (T)), .any (fun v w' => NewRec w2 w' v ([.bool false, .slice none 0 0]))] [some 25, some 26, some 27, some 28, some 29, some 30, some 31, some 32, some 33, some 34, some 10] (by kernel_rfl) (by kernel_rfl) rfl (by kernel_rfl) (by repeat (first | exact trivial | refine ⟨fun _ _ _ g h => by first | exact h.G g | exact fun w3 g3 => h w3 (G.trans g g3), ?_⟩)) (by kernel_rfl) (by kernel_rfl) ?_
  refine Letters.is ?_
  refine Letters.is ?_
  refine Letters.is ?_
  refine Letters.is ?_
  refine Letters.any fun v4 => ?_
  refine Letters.is ?_
  refine Letters.is ?_
  refine Letters.is ?_
  refine Letters.any fun v8 => ?_
  refine Letters.any fun v9 => ?_
  refine Letters.any fun v10 => ?_
  refine Letters.nil ?_
  intro A hA
  simp only [fillD, Act.put, List.setIfInBounds_toArray, List.set_cons_zero, List.set_cons_succ] at hA
  subst hA
  refine ⟨?_, ?_⟩
  · skip
    refine Eaches.cons rfl ?_ ?_
    · intro W hW hD K hK
      clear hD
      go_simp
      exact hK.out _ _ ⟨_, by first | (simp only [Act.put, List.setIfInBounds_toArray, List.set_cons_zero, List.set_cons_succ]; done) | simp only [Act.put, List.setIfInBounds_toArray, List.set_cons_zero, List.set_cons_succ, *], G.refl _, rfl⟩
    refine Eaches.cons rfl ?_ ?_
    · intro W hW hD K hK
      clear hD
      go_simp
      exact hK.out _ _ ⟨_, by first | (simp only [Act.put, List.setIfInBounds_toArray, List.set_cons_zero, List.set_cons_succ]; done) | simp only [Act.put, List.setIfInBounds_toArray, List.set_cons_zero, List.set_cons_succ, *], G.refl _, rfl⟩
    refine Eaches.cons rfl ?_ ?_
    · intro W hW hD K hK
      clear hD
      have hT0 := Rec.f3 (Rec.G T0.out hW)
      have hT0_0 := hT0.1
      have hT0_1 := hT0.2.1
      have hT0_2 := hT0.2.2.1
      clear hT0
      have hT1 := Rec.f3 (Rec.G T1.out hW)
      have hT1_0 := hT1.1
      have hT1_1 := hT1.2.1
      have hT1_2 := hT1.2.2.1
      clear hT1
      go_simp
      exact hK.out _ _ ⟨_, by first | (simp only [Act.put, List.setIfInBounds_toArray, List.set_cons_zero, List.set_cons_succ]; done) | simp only [Act.put, List.setIfInBounds_toArray, List.set_cons_zero, List.set_cons_succ, *], G.refl _, rfl⟩
    refine Eaches.cons rfl ?_ ?_
    · intro W hW hD K hK
      clear hD
      go_simp
      exact hK.out _ _ ⟨_, by first | (simp only [Act.put, List.setIfInBounds_toArray, List.set_cons_zero, List.set_cons_succ]; done) | simp only [Act.put, List.setIfInBounds_toArray, List.set_cons_zero, List.set_cons_succ, *], G.refl _, rfl⟩
    refine Eaches.cons rfl ?_ ?_
    · intro W hW hD K hK
      clear hD
      go_simp
      go_wp2_with (go_at_call 102; refine Calls.mono (P := Tryz.prog) (HT1.out W vb (G.trans g02 hW) (S9.out.G hW)) ?_; intro e w9 hs; obtain ⟨u9, rfl, g9, hn9⟩ := hs)
      exact hK.out _ _ ⟨_, by first | (simp only [Act.put, List.setIfInBounds_toArray, List.set_cons_zero, List.set_cons_succ]; done) | simp only [Act.put, List.setIfInBounds_toArray, List.set_cons_zero, List.set_cons_succ, *], g9, hn9⟩
    refine Eaches.cons rfl ?_ ?_
    · intro W hW hD K hK
      clear hD
      go_simp
      exact hK.out _ _ ⟨_, by first | (simp only [Act.put, List.setIfInBounds_toArray, List.set_cons_zero, List.set_cons_succ]; done) | simp only [Act.put, List.setIfInBounds_toArray, List.set_cons_zero, List.set_cons_succ, *], G.refl _, rfl⟩
    refine Eaches.cons rfl ?_ ?_
    · intro W hW hD K hK
      clear hD
      have hT0 := Rec.f3 (Rec.G T0.out hW)
      have hT0_0 := hT0.1
      have hT0_1 := hT0.2.1
      have hT0_2 := hT0.2.2.1
      clear hT0
      have hT1 := Rec.f3 (Rec.G T1.out hW)
      have hT1_0 := hT1.1
      have hT1_1 := hT1.2.1
      have hT1_2 := hT1.2.2.1
      clear hT1
      go_simp
      exact hK.out _ _ ⟨_, by first | (simp only [Act.put, List.setIfInBounds_toArray, List.set_cons_zero, List.set_cons_succ]; done) | simp only [Act.put, List.setIfInBounds_toArray, List.set_cons_zero, List.set_cons_succ, *], G.refl _, rfl⟩
    refine Eaches.cons rfl ?_ ?_
    · intro W hW hD K hK
      clear hD
      go_simp
      exact hK.out _ _ ⟨_, by first | (simp only [Act.put, List.setIfInBounds_toArray, List.set_cons_zero, List.set_cons_succ]; done) | simp only [Act.put, List.setIfInBounds_toArray, List.set_cons_zero, List.set_cons_succ, *], G.refl _, rfl⟩
    refine Eaches.cons rfl ?_ ?_
    · intro W hW hD K hK
      clear hD
      go_simp
      go_wp2_with (go_at_call 102; refine Calls.mono (P := Tryz.prog) (HT2.out W va (G.trans g02 hW) (S8.out.G hW)) ?_; intro e w9 hs; obtain ⟨u9, rfl, g9, hn9⟩ := hs)
      exact hK.out _ _ ⟨_, by first | (simp only [Act.put, List.setIfInBounds_toArray, List.set_cons_zero, List.set_cons_succ]; done) | simp only [Act.put, List.setIfInBounds_toArray, List.set_cons_zero, List.set_cons_succ, *], g9, hn9⟩
    refine Eaches.cons rfl ?_ ?_
    · intro W hW hD K hK
      have h4 := Deps.get (v := v4) 4 hD rfl rfl (by kernel_rfl)
      have h8 := Deps.get (v := v8) 8 hD rfl rfl (by kernel_rfl)
      clear hD
      go_simp
      go_wp2_with (go_at_call 103; refine Calls.mono (P := Tryz.prog) (HP.out W v4 v8 h4 h8) ?_; intro e w9 hs; obtain ⟨u9, rfl, g9, hn9⟩ := hs)
      exact hK.out _ _ ⟨_, by first | (simp only [Act.put, List.setIfInBounds_toArray, List.set_cons_zero, List.set_cons_succ]; done) | simp only [Act.put, List.setIfInBounds_toArray, List.set_cons_zero, List.set_cons_succ, *], g9, hn9⟩
    refine Eaches.cons rfl ?_ ?_
    · intro W hW hD K hK
      clear hD
      go_simp
      exact hK.out _ _ ⟨_, by first | (simp only [Act.put, List.setIfInBounds_toArray, List.set_cons_zero, List.set_cons_succ]; done) | simp only [Act.put, List.setIfInBounds_toArray, List.set_cons_zero, List.set_cons_succ, *], (G.refl _).alloc _, _, rfl, hW.size, Rec.new2 _ _ _ _⟩
    exact Eaches.nil
  intro w3 g3 hH
  have h9 := Helds.get (v := v9) 9 hH rfl rfl
  have h10 := Helds.get (v := v10) 10 hH rfl rfl
  clear hH
  obtain ⟨nb, rfl, hnb, hr10⟩ := h10
  obtain ⟨d1, d2, d3, rfl, hm9⟩ := h9
  rw [← HTS.out]
  have N0 : Hid (Rec w3 nb [.bool false, .slice none 0 0]) := hr10
  have S10 : Hid (Num _ (.slice d1 d2 d3) T.natAbs) := num_set2 (u1 := .bool t) (u2 := .slice d1 d2 d3) hm9 hr10 trivial trivial
  clear hr10 hm9 HP HT1 HT2
  have hS := Rec.f2 (Rec.G N0.out ((G.refl _)))
  have hS_0 := hS.1
  have hS_1 := hS.2.1
  have hS_2 := hS.2.2.1
  have hS_3 := hS.2.2.2
  clear hS
  refine wpAny_ready (rs := [11]) (by kernel_rfl) (by simp) ?_
  refine AllReady.cons rfl (fun K hK => ?_) AllReady.nil
  go_simp
  refine hK _ _ ?_
  clear hK K hS_0 hS_1 hS_2 hS_3
  refine wpAny_done (by kernel_rfl) ?_ _
  have N1 : Hid (Rec _ nb [.bool t, .slice d1 d2 d3]) := Rec.set2 N0.out
  have g4 := Rec.g2 (b := nb) (u := .bool t) (v := .slice d1 d2 d3) g3 hnb
  generalize ((w3.setCell ⟨nb, 0, none⟩ (.bool t)).setCell ⟨nb, 1, none⟩ (.slice d1 d2 d3)) = w4 at *
  have g04 := G.trans g02 g4
  have U2 : Hid (Rec _ _ _) := Rec.G T2.out (g4)
  have S5 : Hid (Num w4 vs s) := S5'.out.G g4
  have S8' : Hid (Num w4 va A) := S8.out.G g4
  have S9' : Hid (Num w4 vb B) := S9.out.G g4
  have HC4 : Hid _ := HC2.out w4 (.slice d1 d2 d3) vs g04 S10.out S5.out
  have hnw : w.heap.size ≤ nb := Nat.le_trans g02.size hnb
  clear T0 T1 T2 N0 S5' S8 S9 g02 g3 g4 hnb HC2
  have hSN1 := Rec.f2 (Rec.G N1.out (G.refl _))
  have hSN1_0 := hSN1.1
  have hSN1_1 := hSN1.2.1
  have hSN1_2 := hSN1.2.2.1
  have hSN1_3 := hSN1.2.2.2
  clear hSN1
  go_wp2_with fail
  refine Calls.mono (P := Tryz.prog) HC4.out ?_
  intro e4 w5 hs
  obtain ⟨vr, rfl, g5, hvr⟩ := hs
  have HO5 : Hid _ := HO3.out w5 (.slice d1 d2 d3) vr (S10.out.G g5) hvr
  have SR : Hid (Num w5 vr r) := hvr
  clear HC4 HO3 hvr hSN1_0 hSN1_1 hSN1_2 hSN1_3
  have hSN1 := Rec.f2 (Rec.G N1.out (g5))
  have hSN1_0 := hSN1.1
  have hSN1_1 := hSN1.2.1
  have hSN1_2 := hSN1.2.2.1
  have hSN1_3 := hSN1.2.2.2
  clear hSN1
  go_wp2_with fail
  refine Calls.mono (P := Tryz.prog) HO5.out ?_
  intro e4 w6 hs
  obtain ⟨vt, rfl, g6, hvt⟩ := hs
  obtain ⟨f1, f2, f3, rfl, -⟩ := num_zero hvt
  have SR' : Hid (Num w6 vr r) := SR.out.G g6
  have ST : Hid (Num (w6.setCell ⟨nb, 1, none⟩ (.slice f1 f2 f3)) (.slice f1 f2 f3) tr) := num_set1 hvt (Rec.G (Rec.G N1.out g5) g6) trivial trivial
  have g46 := G.trans g5 g6
  have SA : Hid (Num (w6.setCell ⟨nb, 1, none⟩ (.slice f1 f2 f3)) va A) := num_set1 (S8'.out.G g46) (Rec.G N1.out g46) trivial trivial
  have SB : Hid (Num (w6.setCell ⟨nb, 1, none⟩ (.slice f1 f2 f3)) vb B) := num_set1 (S9'.out.G g46) (Rec.G N1.out g46) trivial trivial
  have SS : Hid (Num (w6.setCell ⟨nb, 1, none⟩ (.slice f1 f2 f3)) vs s) := num_set1 (S5.out.G g46) (Rec.G N1.out g46) trivial trivial
  have SQ : Hid (Num (w6.setCell ⟨nb, 1, none⟩ (.slice f1 f2 f3)) vr r) := num_set1 SR'.out (Rec.G N1.out g46) trivial trivial
  have N2 : Hid (Rec (w6.setCell ⟨nb, 1, none⟩ (.slice f1 f2 f3)) nb [.bool t, .slice f1 f2 f3]) := (Rec.G N1.out g46).set 1 _
  have V2 : Hid (Rec (w6.setCell ⟨nb, 1, none⟩ (.slice f1 f2 f3)) (w.heap.size + 2) [.bool false, .slice none 0 0, .slice none 0 0]) := (Rec.G U2.out g46).oth (p := ⟨nb, 1, none⟩) _ (rec_ne N1.out U2.out)
  have g7 : G w (w6.setCell ⟨nb, 1, none⟩ (.slice f1 f2 f3)) := (G.trans g04 g46).setCell (p := ⟨nb, 1, none⟩) hnw _
  clear HO5 hvt hSN1_0 hSN1_1 hSN1_2 hSN1_3 SR SR' S5 S8' S9' g04 hnw S10 U2
  have hSN1 := Rec.f2 (Rec.G N1.out (g46))
  have hSN1_0 := hSN1.1
  have hSN1_1 := hSN1.2.1
  have hSN1_2 := hSN1.2.2.1
  have hSN1_3 := hSN1.2.2.2
  clear hSN1
  clear g5 g6 g46
  go_wp2_with fail
  generalize w6.setCell ⟨nb, 1, none⟩ (.slice f1 f2 f3) = w7 at *
  clear hSN1_0 hSN1_1 hSN1_2 hSN1_3 N1
  refine region_each 9 1 #[true, true, true, true, true, true, true, true, true, false] [.is (.agg #[.bool t, .slice f1 f2 f3]), .is (va), .is (vb), .any (fun v w' => Num w' v (N)), .is (vs), .is (vr), .any (fun v w' => Num w' v (sr)), .any (fun v w' => Num w' v (M)), .any (fun v w' => QIs w' v (z))] [some 44, some 45, some 46, some 47, some 48, some 49, some 50, some 51, some 52] (by kernel_rfl) (by kernel_rfl) rfl (by kernel_rfl) (by repeat (first | exact trivial | refine ⟨fun _ _ _ g h => by first | exact h.G g | exact fun w3 g3 => h w3 (G.trans g g3), ?_⟩)) (by kernel_rfl) (by kernel_rfl) ?_
  refine Letters.is ?_
  refine Letters.is ?_
  refine Letters.is ?_
  refine Letters.any fun v3 => ?_
  refine Letters.is ?_
  refine Letters.is ?_
  refine Letters.any fun v6 => ?_
  refine Letters.any fun v7 => ?_
  refine Letters.any fun v8 => ?_
  refine Letters.nil ?_
  intro A hA
  simp only [fillD, Act.put, List.setIfInBounds_toArray, List.set_cons_zero, List.set_cons_succ] at hA
  subst hA
  refine ⟨?_, ?_⟩
  · skip
    refine Eaches.cons rfl ?_ ?_
    · intro W hW hD K hK
      clear hD
      have hN2 := Rec.f2 (Rec.G N2.out hW)
      have hN2_0 := hN2.1
      have hN2_1 := hN2.2.1
      clear hN2
      go_simp
      exact hK.out _ _ ⟨_, by first | (simp only [Act.put, List.setIfInBounds_toArray, List.set_cons_zero, List.set_cons_succ]; done) | simp only [Act.put, List.setIfInBounds_toArray, List.set_cons_zero, List.set_cons_succ, *], G.refl _, rfl⟩
    refine Eaches.cons rfl ?_ ?_
    · intro W hW hD K hK
      clear hD
      go_simp
      exact hK.out _ _ ⟨_, by first | (simp only [Act.put, List.setIfInBounds_toArray, List.set_cons_zero, List.set_cons_succ]; done) | simp only [Act.put, List.setIfInBounds_toArray, List.set_cons_zero, List.set_cons_succ, *], G.refl _, rfl⟩
    refine Eaches.cons rfl ?_ ?_
    · intro W hW hD K hK
      clear hD
      go_simp
      exact hK.out _ _ ⟨_, by first | (simp only [Act.put, List.setIfInBounds_toArray, List.set_cons_zero, List.set_cons_succ]; done) | simp only [Act.put, List.setIfInBounds_toArray, List.set_cons_zero, List.set_cons_succ, *], G.refl _, rfl⟩
    refine Eaches.cons rfl ?_ ?_
    · intro W hW hD K hK
      clear hD
      go_simp
      go_wp2_with (go_at_call 99; refine Calls.mono (P := Tryz.prog) (HM1.out W va vb (SA.out.G hW) (SB.out.G hW)) ?_; intro e w9 hs; obtain ⟨u9, rfl, g9, hn9⟩ := hs)
      exact hK.out _ _ ⟨_, by first | (simp only [Act.put, List.setIfInBounds_toArray, List.set_cons_zero, List.set_cons_succ]; done) | simp only [Act.put, List.setIfInBounds_toArray, List.set_cons_zero, List.set_cons_succ, *], g9, hn9⟩
    refine Eaches.cons rfl ?_ ?_
    · intro W hW hD K hK
      clear hD
      go_simp
      exact hK.out _ _ ⟨_, by first | (simp only [Act.put, List.setIfInBounds_toArray, List.set_cons_zero, List.set_cons_succ]; done) | simp only [Act.put, List.setIfInBounds_toArray, List.set_cons_zero, List.set_cons_succ, *], G.refl _, rfl⟩
    refine Eaches.cons rfl ?_ ?_
    · intro W hW hD K hK
      clear hD
      go_simp
      exact hK.out _ _ ⟨_, by first | (simp only [Act.put, List.setIfInBounds_toArray, List.set_cons_zero, List.set_cons_succ]; done) | simp only [Act.put, List.setIfInBounds_toArray, List.set_cons_zero, List.set_cons_succ, *], G.refl _, rfl⟩
    refine Eaches.cons rfl ?_ ?_
    · intro W hW hD K hK
      clear hD
      go_simp
      go_wp2_with (go_at_call 98; refine Calls.mono (P := Tryz.prog) (HO4.out W vs vr (SS.out.G hW) (SQ.out.G hW)) ?_; intro e w9 hs; obtain ⟨u9, rfl, g9, hn9⟩ := hs)
      exact hK.out _ _ ⟨_, by first | (simp only [Act.put, List.setIfInBounds_toArray, List.set_cons_zero, List.set_cons_succ]; done) | simp only [Act.put, List.setIfInBounds_toArray, List.set_cons_zero, List.set_cons_succ, *], g9, hn9⟩
    refine Eaches.cons rfl ?_ ?_
    · intro W hW hD K hK
      have h3 := Deps.get (v := v3) 3 hD rfl rfl (by kernel_rfl)
      have h6 := Deps.get (v := v6) 6 hD rfl rfl (by kernel_rfl)
      clear hD
      go_simp
      go_wp2_with (go_at_call 99; refine Calls.mono (P := Tryz.prog) (HM2.out W v3 v6 h3 h6) ?_; intro e w9 hs; obtain ⟨u9, rfl, g9, hn9⟩ := hs)
      exact hK.out _ _ ⟨_, by first | (simp only [Act.put, List.setIfInBounds_toArray, List.set_cons_zero, List.set_cons_succ]; done) | simp only [Act.put, List.setIfInBounds_toArray, List.set_cons_zero, List.set_cons_succ, *], g9, hn9⟩
    refine Eaches.cons rfl ?_ ?_
    · intro W hW hD K hK
      have h7 := Deps.get (v := v7) 7 hD rfl rfl (by kernel_rfl)
      clear hD
      go_simp
      go_wp2_with (go_at_call 100; refine Calls.mono (P := Tryz.prog) (HF.out W f1 f2 f3 v7 (ST.out.G hW) h7) ?_; intro e w9 hs; obtain ⟨u9, rfl, g9, hn9⟩ := hs)
      exact hK.out _ _ ⟨_, by first | (simp only [Act.put, List.setIfInBounds_toArray, List.set_cons_zero, List.set_cons_succ]; done) | simp only [Act.put, List.setIfInBounds_toArray, List.set_cons_zero, List.set_cons_succ, *], g9, hn9⟩
    exact Eaches.nil
  intro w8 g8 hH
  have h8 := Helds.get (v := v8) 8 hH rfl rfl
  clear hH
  clear HM1 HM2 HO4 HF SA SB SS SQ ST N2
  obtain ⟨a8, k8, c8, a9, k9, c9, rfl, hm8, hm9⟩ := h8
  have HN8 : Hid (Num w8 (.slice a8 k8 c8) (z).num.natAbs) := hm8
  have HN9 : Hid (Num w8 (.slice a9 k9 c9) (lowOf (z).den)) := hm9
  obtain ⟨t9, ht9⟩ : ∃ t, t = decide ((z).num < 0) := ⟨_, rfl⟩
  rw [← ht9]
  have HT9 : Hid (t9 = decide ((z).num < 0)) := ht9
  clear hm8 hm9 ht9
  have hS := Rec.f3 (Rec.G V2.out (g8))
  have hS_0 := hS.1
  have hS_1 := hS.2.1
  have hS_2 := hS.2.2.1
  have hS_3 := hS.2.2.2.1
  have hS_4 := hS.2.2.2.2.1
  have hS_5 := hS.2.2.2.2.2
  clear hS
  refine wpAny_ready (rs := [9]) (by kernel_rfl) (by simp) ?_
  refine AllReady.cons rfl (fun K hK => ?_) AllReady.nil
  go_simp
  refine hK _ _ ?_
  clear hK K hS_0 hS_1 hS_2 hS_3 hS_4 hS_5
  refine wpAny_done (by kernel_rfl) ?_ _
  have HN8' : Num _ _ _ := num_set3 (u1 := .bool t9) (u2 := .slice a8 k8 c8) (u3 := .slice a9 k9 c9) HN8.out (Rec.G V2.out (g8)) trivial trivial trivial
  have HN9' : Num _ _ _ := num_set3 (u1 := .bool t9) (u2 := .slice a8 k8 c8) (u3 := .slice a9 k9 c9) HN9.out (Rec.G V2.out (g8)) trivial trivial trivial
  go_wp2_with fail
  have hT : Hid (Rec (World.setCell (World.setCell (World.setCell w8 ⟨w.heap.size + 2, 0, none⟩ (.bool t9)) ⟨w.heap.size + 2, 1, none⟩ (.slice a8 k8 c8)) ⟨w.heap.size + 2, 2, none⟩ (.slice a9 k9 c9)) (w.heap.size + 2) [.bool t9, .slice a8 k8 c8, .slice a9 k9 c9]) := Rec.set3 (Rec.G V2.out (g8))
  have g9 := Rec.g3 (b := w.heap.size + 2) (u := .bool t9) (v := .slice a8 k8 c8) (x := .slice a9 k9 c9) (G.trans g7 g8) (by omega)
  generalize (World.setCell (World.setCell (World.setCell w8 ⟨w.heap.size + 2, 0, none⟩ (.bool t9)) ⟨w.heap.size + 2, 1, none⟩ (.slice a8 k8 c8)) ⟨w.heap.size + 2, 2, none⟩ (.slice a9 k9 c9)) = w9 at *
  have hF := Rec.f3 (Rec.G hT.out ((G.refl _)))
  have hF_0 := hF.1
  have hF_1 := hF.2.1
  have hF_2 := hF.2.2.1
  have hF_3 := hF.2.2.2.1
  have hF_4 := hF.2.2.2.2.1
  have hF_5 := hF.2.2.2.2.2
  clear hF
  refine bodyPost_ret (v := .agg #[.bool t9, .slice a8 k8 c8, .slice a9 k9 c9]) (by simp [results, Tryz.results119, go_sem, *]) rfl ?_
  exact ⟨_, rfl, g9, a8, k8, c8, a9, k9, c9, by rw [← HT9.out], HN8', HN9'⟩
end Go.Proofs.YtielcpkcfpbanacGreatDoor.EN
namespace Go.Proofs.YtielcpkcfpbanacGreatDoor.EN
open Go.ChangeShapes Go.WideShapes Go.ChangeAt Go.RowKit

theorem qadd_c (w : World) (v u : Value) (x y : Rat) (K : Nat) (hK : K ≤ 40000) (hK1 : 1 ≤ K) (hTb : Tab w) (hx : QIs w v x) (hy : QIs w u y) (bx : QB x K) (by_ : QB y K) :
    Calls Tryz.prog 72 #[v, u] w (RetQ w (x + y)) := by
  have HJ : Hid (∀ w1, G w w1 → _) := fun w1 g => joined_plus w1 v u x y K hK hK1 (hTb.G g) (hx.G g) (hy.G g) bx by_
  generalize x + y = z at *
  obtain ⟨a, k, c, a', k', c', rfl, -, -⟩ := hx
  obtain ⟨b, j, e, b', j', e', rfl, -, -⟩ := hy
  generalize decide (x.num < 0) = s at *
  generalize decide (y.num < 0) = t at *
  clear bx by_ hTb
  go_enter Tryz.func72, Tryz.ntmps72
  go_wp2_with fail
  have g0 : G w (World.alloc (World.alloc (w.alloc (.cells #[.bool s, .slice a k c, .slice a' k' c'] 96)) (.cells #[.bool t, .slice b j e, .slice b' j' e'] 96)) (.cells #[.bool false, .slice none 0 0, .slice none 0 0] 96)) := ((((G.refl w).alloc _).alloc _).alloc _)
  have R0 : Hid (Rec (World.alloc (World.alloc (w.alloc (.cells #[.bool s, .slice a k c, .slice a' k' c'] 96)) (.cells #[.bool t, .slice b j e, .slice b' j' e'] 96)) (.cells #[.bool false, .slice none 0 0, .slice none 0 0] 96)) (w.heap.size) [.bool s, .slice a k c, .slice a' k' c']) := by
    have h := Rec.new3 w (.bool s) (.slice a k c) (.slice a' k' c') 96
    exact (Rec.G (Rec.G h ((G.refl (w.alloc (.cells #[.bool s, .slice a k c, .slice a' k' c'] 96))).alloc (.cells #[.bool t, .slice b j e, .slice b' j' e'] 96))) ((G.refl (World.alloc (w.alloc (.cells #[.bool s, .slice a k c, .slice a' k' c'] 96)) (.cells #[.bool t, .slice b j e, .slice b' j' e'] 96))).alloc (.cells #[.bool false, .slice none 0 0, .slice none 0 0] 96)))
  have R1 : Hid (Rec (World.alloc (World.alloc (w.alloc (.cells #[.bool s, .slice a k c, .slice a' k' c'] 96)) (.cells #[.bool t, .slice b j e, .slice b' j' e'] 96)) (.cells #[.bool false, .slice none 0 0, .slice none 0 0] 96)) (w.heap.size + 1) [.bool t, .slice b j e, .slice b' j' e']) := by
    have h := Rec.new3 (w.alloc (.cells #[.bool s, .slice a k c, .slice a' k' c'] 96)) (.bool t) (.slice b j e) (.slice b' j' e') 96
    rw [show (w.alloc (.cells #[.bool s, .slice a k c, .slice a' k' c'] 96)).heap.size = w.heap.size + 1 from by simp] at h
    exact (Rec.G h ((G.refl (World.alloc (w.alloc (.cells #[.bool s, .slice a k c, .slice a' k' c'] 96)) (.cells #[.bool t, .slice b j e, .slice b' j' e'] 96))).alloc (.cells #[.bool false, .slice none 0 0, .slice none 0 0] 96)))
  have R2 : Hid (Rec (World.alloc (World.alloc (w.alloc (.cells #[.bool s, .slice a k c, .slice a' k' c'] 96)) (.cells #[.bool t, .slice b j e, .slice b' j' e'] 96)) (.cells #[.bool false, .slice none 0 0, .slice none 0 0] 96)) (w.heap.size + 2) [.bool false, .slice none 0 0, .slice none 0 0]) := by
    have h := Rec.new3 (World.alloc (w.alloc (.cells #[.bool s, .slice a k c, .slice a' k' c'] 96)) (.cells #[.bool t, .slice b j e, .slice b' j' e'] 96)) (.bool false) (.slice none 0 0) (.slice none 0 0) 96
    rw [show (World.alloc (w.alloc (.cells #[.bool s, .slice a k c, .slice a' k' c'] 96)) (.cells #[.bool t, .slice b j e, .slice b' j' e'] 96)).heap.size = w.heap.size + 2 from by simp] at h
    exact h
  have hz0 : (World.alloc (World.alloc (w.alloc (.cells #[.bool s, .slice a k c, .slice a' k' c'] 96)) (.cells #[.bool t, .slice b j e, .slice b' j' e'] 96)) (.cells #[.bool false, .slice none 0 0, .slice none 0 0] 96)).heap.size = w.heap.size + 3 := by simp
  generalize (World.alloc (World.alloc (w.alloc (.cells #[.bool s, .slice a k c, .slice a' k' c'] 96)) (.cells #[.bool t, .slice b j e, .slice b' j' e'] 96)) (.cells #[.bool false, .slice none 0 0, .slice none 0 0] 96)) = w0 at *
  refine Calls.mono (P := Tryz.prog) (HJ.out w0 g0) ?_
  intro e4 w1 hs
  obtain ⟨vz, rfl, g1, hz⟩ := hs
  clear HJ
  obtain ⟨a8, k8, c8, a9, k9, c9, rfl, hm8, hm9⟩ := hz
  have HN8 : Hid (Num w1 (.slice a8 k8 c8) (z).num.natAbs) := hm8
  have HN9 : Hid (Num w1 (.slice a9 k9 c9) (lowOf (z).den)) := hm9
  obtain ⟨t9, ht9⟩ : ∃ t, t = decide ((z).num < 0) := ⟨_, rfl⟩
  rw [← ht9]
  have HT9 : Hid (t9 = decide ((z).num < 0)) := ht9
  clear hm8 hm9 ht9
  have hS := Rec.f3 (Rec.G R2.out ((g1)))
  have hS_0 := hS.1
  have hS_1 := hS.2.1
  have hS_2 := hS.2.2.1
  have hS_3 := hS.2.2.2.1
  have hS_4 := hS.2.2.2.2.1
  have hS_5 := hS.2.2.2.2.2
  clear hS
  have HN8' : Num _ _ _ := num_set3 (u1 := .bool t9) (u2 := .slice a8 k8 c8) (u3 := .slice a9 k9 c9) HN8.out (Rec.G R2.out (g1)) trivial trivial trivial
  have HN9' : Num _ _ _ := num_set3 (u1 := .bool t9) (u2 := .slice a8 k8 c8) (u3 := .slice a9 k9 c9) HN9.out (Rec.G R2.out (g1)) trivial trivial trivial
  go_wp2_with fail
  have hT : Hid (Rec (World.setCell (World.setCell (World.setCell w1 ⟨w.heap.size + 2, 0, none⟩ (.bool t9)) ⟨w.heap.size + 2, 1, none⟩ (.slice a8 k8 c8)) ⟨w.heap.size + 2, 2, none⟩ (.slice a9 k9 c9)) (w.heap.size + 2) [.bool t9, .slice a8 k8 c8, .slice a9 k9 c9]) := Rec.set3 (Rec.G R2.out (g1))
  have g9 := Rec.g3 (b := w.heap.size + 2) (u := .bool t9) (v := .slice a8 k8 c8) (x := .slice a9 k9 c9) (G.trans g0 g1) (by omega)
  generalize (World.setCell (World.setCell (World.setCell w1 ⟨w.heap.size + 2, 0, none⟩ (.bool t9)) ⟨w.heap.size + 2, 1, none⟩ (.slice a8 k8 c8)) ⟨w.heap.size + 2, 2, none⟩ (.slice a9 k9 c9)) = w9 at *
  have hF := Rec.f3 (Rec.G hT.out ((G.refl _)))
  have hF_0 := hF.1
  have hF_1 := hF.2.1
  have hF_2 := hF.2.2.1
  have hF_3 := hF.2.2.2.1
  have hF_4 := hF.2.2.2.2.1
  have hF_5 := hF.2.2.2.2.2
  clear hF
  refine bodyPost_ret (v := .agg #[.bool t9, .slice a8 k8 c8, .slice a9 k9 c9]) (by simp [results, Tryz.results72, go_sem, *]) rfl ?_
  exact ⟨_, rfl, g9, a8, k8, c8, a9, k9, c9, by rw [← HT9.out], HN8', HN9'⟩

theorem qsub_c (w : World) (v u : Value) (x y : Rat) (K : Nat) (hK : K ≤ 40000) (hK1 : 1 ≤ K) (hTb : Tab w) (hx : QIs w v x) (hy : QIs w u y) (bx : QB x K) (by_ : QB y K) :
    Calls Tryz.prog 73 #[v, u] w (RetQ w (x - y)) := by
  have HJ : Hid (∀ w1, G w w1 → _) := fun w1 g => joined_minus w1 v u x y K hK hK1 (hTb.G g) (hx.G g) (hy.G g) bx by_
  generalize x - y = z at *
  obtain ⟨a, k, c, a', k', c', rfl, -, -⟩ := hx
  obtain ⟨b, j, e, b', j', e', rfl, -, -⟩ := hy
  generalize decide (x.num < 0) = s at *
  generalize decide (y.num < 0) = t at *
  clear bx by_ hTb
  go_enter Tryz.func73, Tryz.ntmps73
  go_wp2_with fail
  have g0 : G w (World.alloc (World.alloc (w.alloc (.cells #[.bool s, .slice a k c, .slice a' k' c'] 96)) (.cells #[.bool t, .slice b j e, .slice b' j' e'] 96)) (.cells #[.bool false, .slice none 0 0, .slice none 0 0] 96)) := ((((G.refl w).alloc _).alloc _).alloc _)
  have R0 : Hid (Rec (World.alloc (World.alloc (w.alloc (.cells #[.bool s, .slice a k c, .slice a' k' c'] 96)) (.cells #[.bool t, .slice b j e, .slice b' j' e'] 96)) (.cells #[.bool false, .slice none 0 0, .slice none 0 0] 96)) (w.heap.size) [.bool s, .slice a k c, .slice a' k' c']) := by
    have h := Rec.new3 w (.bool s) (.slice a k c) (.slice a' k' c') 96
    exact (Rec.G (Rec.G h ((G.refl (w.alloc (.cells #[.bool s, .slice a k c, .slice a' k' c'] 96))).alloc (.cells #[.bool t, .slice b j e, .slice b' j' e'] 96))) ((G.refl (World.alloc (w.alloc (.cells #[.bool s, .slice a k c, .slice a' k' c'] 96)) (.cells #[.bool t, .slice b j e, .slice b' j' e'] 96))).alloc (.cells #[.bool false, .slice none 0 0, .slice none 0 0] 96)))
  have R1 : Hid (Rec (World.alloc (World.alloc (w.alloc (.cells #[.bool s, .slice a k c, .slice a' k' c'] 96)) (.cells #[.bool t, .slice b j e, .slice b' j' e'] 96)) (.cells #[.bool false, .slice none 0 0, .slice none 0 0] 96)) (w.heap.size + 1) [.bool t, .slice b j e, .slice b' j' e']) := by
    have h := Rec.new3 (w.alloc (.cells #[.bool s, .slice a k c, .slice a' k' c'] 96)) (.bool t) (.slice b j e) (.slice b' j' e') 96
    rw [show (w.alloc (.cells #[.bool s, .slice a k c, .slice a' k' c'] 96)).heap.size = w.heap.size + 1 from by simp] at h
    exact (Rec.G h ((G.refl (World.alloc (w.alloc (.cells #[.bool s, .slice a k c, .slice a' k' c'] 96)) (.cells #[.bool t, .slice b j e, .slice b' j' e'] 96))).alloc (.cells #[.bool false, .slice none 0 0, .slice none 0 0] 96)))
  have R2 : Hid (Rec (World.alloc (World.alloc (w.alloc (.cells #[.bool s, .slice a k c, .slice a' k' c'] 96)) (.cells #[.bool t, .slice b j e, .slice b' j' e'] 96)) (.cells #[.bool false, .slice none 0 0, .slice none 0 0] 96)) (w.heap.size + 2) [.bool false, .slice none 0 0, .slice none 0 0]) := by
    have h := Rec.new3 (World.alloc (w.alloc (.cells #[.bool s, .slice a k c, .slice a' k' c'] 96)) (.cells #[.bool t, .slice b j e, .slice b' j' e'] 96)) (.bool false) (.slice none 0 0) (.slice none 0 0) 96
    rw [show (World.alloc (w.alloc (.cells #[.bool s, .slice a k c, .slice a' k' c'] 96)) (.cells #[.bool t, .slice b j e, .slice b' j' e'] 96)).heap.size = w.heap.size + 2 from by simp] at h
    exact h
  have hz0 : (World.alloc (World.alloc (w.alloc (.cells #[.bool s, .slice a k c, .slice a' k' c'] 96)) (.cells #[.bool t, .slice b j e, .slice b' j' e'] 96)) (.cells #[.bool false, .slice none 0 0, .slice none 0 0] 96)).heap.size = w.heap.size + 3 := by simp
  generalize (World.alloc (World.alloc (w.alloc (.cells #[.bool s, .slice a k c, .slice a' k' c'] 96)) (.cells #[.bool t, .slice b j e, .slice b' j' e'] 96)) (.cells #[.bool false, .slice none 0 0, .slice none 0 0] 96)) = w0 at *
  refine Calls.mono (P := Tryz.prog) (HJ.out w0 g0) ?_
  intro e4 w1 hs
  obtain ⟨vz, rfl, g1, hz⟩ := hs
  clear HJ
  obtain ⟨a8, k8, c8, a9, k9, c9, rfl, hm8, hm9⟩ := hz
  have HN8 : Hid (Num w1 (.slice a8 k8 c8) (z).num.natAbs) := hm8
  have HN9 : Hid (Num w1 (.slice a9 k9 c9) (lowOf (z).den)) := hm9
  obtain ⟨t9, ht9⟩ : ∃ t, t = decide ((z).num < 0) := ⟨_, rfl⟩
  rw [← ht9]
  have HT9 : Hid (t9 = decide ((z).num < 0)) := ht9
  clear hm8 hm9 ht9
  have hS := Rec.f3 (Rec.G R2.out ((g1)))
  have hS_0 := hS.1
  have hS_1 := hS.2.1
  have hS_2 := hS.2.2.1
  have hS_3 := hS.2.2.2.1
  have hS_4 := hS.2.2.2.2.1
  have hS_5 := hS.2.2.2.2.2
  clear hS
  have HN8' : Num _ _ _ := num_set3 (u1 := .bool t9) (u2 := .slice a8 k8 c8) (u3 := .slice a9 k9 c9) HN8.out (Rec.G R2.out (g1)) trivial trivial trivial
  have HN9' : Num _ _ _ := num_set3 (u1 := .bool t9) (u2 := .slice a8 k8 c8) (u3 := .slice a9 k9 c9) HN9.out (Rec.G R2.out (g1)) trivial trivial trivial
  go_wp2_with fail
  have hT : Hid (Rec (World.setCell (World.setCell (World.setCell w1 ⟨w.heap.size + 2, 0, none⟩ (.bool t9)) ⟨w.heap.size + 2, 1, none⟩ (.slice a8 k8 c8)) ⟨w.heap.size + 2, 2, none⟩ (.slice a9 k9 c9)) (w.heap.size + 2) [.bool t9, .slice a8 k8 c8, .slice a9 k9 c9]) := Rec.set3 (Rec.G R2.out (g1))
  have g9 := Rec.g3 (b := w.heap.size + 2) (u := .bool t9) (v := .slice a8 k8 c8) (x := .slice a9 k9 c9) (G.trans g0 g1) (by omega)
  generalize (World.setCell (World.setCell (World.setCell w1 ⟨w.heap.size + 2, 0, none⟩ (.bool t9)) ⟨w.heap.size + 2, 1, none⟩ (.slice a8 k8 c8)) ⟨w.heap.size + 2, 2, none⟩ (.slice a9 k9 c9)) = w9 at *
  have hF := Rec.f3 (Rec.G hT.out ((G.refl _)))
  have hF_0 := hF.1
  have hF_1 := hF.2.1
  have hF_2 := hF.2.2.1
  have hF_3 := hF.2.2.2.1
  have hF_4 := hF.2.2.2.2.1
  have hF_5 := hF.2.2.2.2.2
  clear hF
  refine bodyPost_ret (v := .agg #[.bool t9, .slice a8 k8 c8, .slice a9 k9 c9]) (by simp [results, Tryz.results73, go_sem, *]) rfl ?_
  exact ⟨_, rfl, g9, a8, k8, c8, a9, k9, c9, by rw [← HT9.out], HN8', HN9'⟩

end Go.Proofs.YtielcpkcfpbanacGreatDoor.EN
