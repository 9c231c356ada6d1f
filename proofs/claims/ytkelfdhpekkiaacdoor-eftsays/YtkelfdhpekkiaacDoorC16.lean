/- What is proved here: contracts of the reference's big numbers: Sign, BitLen, Cmp, Bit, QuoRem, Rsh of Int, over this seat's translation.
What is proved here: contracts of the reference's big numbers: QuoRem, Rsh, Uint64 of Int, what a writing method leaves standing, over this seat's translation.
What is proved here: contracts of the reference's big numbers: TrailingZeroBits of Int, new Ints step by step, over this seat's translation.
What is proved here: the reference's nearest number, its arithmetic (no program).
What is proved here: contracts of the reference's big numbers: Neg of Int, the smallest methods of Rat, over this seat's translation.
What is proved here: contracts of the reference's big numbers: Sub of Int, over this seat's translation.
What is proved here: contracts of the reference's ratios: Cmp of Rat, over this seat's translation. -/
import Derived.Test.YtkelfdhpekkiaacDoorC15
import Derived.Test.YtkelfdhpekkiaacDoorC8
import Derived.Test.YtkelfdhpekkiaacDoorC13
namespace Go.Proofs.YtkelfdhpekkiaacDoor
open Go.ChangeShapes Go.WideShapes Go.ChangeAt Go.RowKit
open BN

theorem signI_c (w : World) (b o : Nat) (s : Int) (hz : IntIs w b o s) :
    Calls Tryd.prog 58 #[.pointer (some ⟨b, o, none⟩)] w fun e w' => e = .returned (.int .i64 s.sign) ∧ G w w' := by
  obtain ⟨n, v, a, ⟨c1, c2, -, -⟩, ⟨l, hl, hc, hv⟩, h1, h2⟩ := hz
  obtain ⟨p, c, rfl, -, -⟩ := sl_at hl
  have h0 : a = 0 ↔ l.length = 0 := by rw [← hv, canon_zero hc, List.length_eq_zero_iff]
  generalize l.length = j at *
  have hss : s.sign = if j = 0 then 0 else if n then -1 else 1 := by
    rw [← h1]; unfold sg
    by_cases hj : j = 0
    · rw [if_pos hj, h0.2 hj]; simp
    · rw [if_neg hj]
      have ha : a ≠ 0 := fun h => hj (h0.1 h)
      cases n
      · simp; omega
      · simp; omega
  rw [hss]
  clear hss hl hc hv h1 h2 h0
  by_cases hj : j = 0
  · subst hj
    go_enter Tryd.func58, Tryd.ntmps58
    go_wp2_with fail
    go_ret
    exact ⟨rfl, G.refl _⟩
  · rw [if_neg hj]
    have t0 : ((j : Int) == 0) = false := by simp; omega
    cases n
    all_goals
      go_enter Tryd.func58, Tryd.ntmps58
      go_wp2_with fail
      go_ret
      exact ⟨rfl, G.refl _⟩

theorem bitLenI_c (w : World) (b o : Nat) (s : Int) (K : Nat) (hK : K ≤ 1000000) (hs : s.natAbs < 2 ^ (32 * K)) (hz : IntIs w b o s) :
    Calls Tryd.prog 83 #[.pointer (some ⟨b, o, none⟩)] w fun e w' => e = .returned (.int .i64 (blen s.natAbs)) ∧ G w w' := by
  obtain ⟨n, v, a, ⟨c1, c2, -, -⟩, hv, h1, h2⟩ := hz
  have ha := sg_abs h1
  rw [← ha] at hs ⊢
  have HW : Hid _ := length_c w v a K hK hv hs
  clear ha h1 h2 hv hs
  go_enter Tryd.func83, Tryd.ntmps83
  go_wp2_with fail
  refine Calls.mono (P := Tryd.prog) HW.out ?_
  rintro e w2 ⟨rfl, hg2⟩
  go_wp2_with fail
  go_ret
  exact ⟨rfl, hg2⟩

theorem G.lt {w w' : World} {b : Nat} (g : G w w') (h : b < w.heap.size) : b < w'.heap.size := Nat.lt_of_lt_of_le h g.size
def cmpI (x y : Int) : Int := if x < y then -1 else if x = y then 0 else 1
theorem cmpI_neg {n : Bool} {a b : Nat} : cmpI (sg n a) (sg n b) = if n then -(cmpV a b) else cmpV a b := by
  unfold cmpI cmpV sg
  cases n
  · simp only [Bool.false_eq_true, if_false]
    by_cases h1 : a < b
    · rw [if_pos (by omega), if_pos h1]
    · rw [if_neg (by omega), if_neg h1]
      by_cases h2 : a = b
      · rw [if_pos (by omega), if_pos h2]
      · rw [if_neg (by omega), if_neg h2]
  · simp only [if_true]
    by_cases h1 : a < b
    · rw [if_neg (by omega), if_neg (by omega), if_pos h1]; rfl
    · rw [if_neg h1]
      by_cases h2 : a = b
      · rw [if_neg (by omega), if_pos (by omega), if_pos h2]; rfl
      · rw [if_pos (by omega), if_neg h2]

theorem cmpI_c (w : World) (bx ox b2 oy : Nat) (sx sy : Int) (K : Nat) (hK : K ≤ 1000000) (hx2 : sx.natAbs < 2 ^ (32 * K)) (hy2 : sy.natAbs < 2 ^ (32 * K)) (hbx : bx < w.heap.size) (hby : b2 < w.heap.size)
    (hx : IntIs w bx ox sx) (hy : IntIs w b2 oy sy) :
    Calls Tryd.prog 65 #[.pointer (some ⟨bx, ox, none⟩), .pointer (some ⟨b2, oy, none⟩)] w fun e w' => e = .returned (.int .i64 (cmpI sx sy)) ∧ G w w' := by
  obtain ⟨n, v, a, ⟨c1, c2, -, -⟩, hv, h1, h3⟩ := hx
  obtain ⟨n', v', a', ⟨c3, c4, -, -⟩, hv', h2, h4⟩ := hy
  have ha := sg_abs h1
  have ha' := sg_abs h2
  have HW : Hid (∀ w1, G w w1 → _) := fun w1 g => cmp_c w1 v v' a a' K (by omega) (hv.G g) (hv'.G g) (by omega) (by omega)
  by_cases hn : n = n'
  · subst hn
    have HS : Hid (cmpI sx sy = if n then -(cmpV a a') else cmpV a a') := by show cmpI sx sy = _; rw [← h1, ← h2]; exact cmpI_neg
    have hb1 : -1 ≤ cmpV a a' := by unfold cmpV; split <;> (try split) <;> omega
    have hb2 : cmpV a a' ≤ 1 := by unfold cmpV; split <;> (try split) <;> omega
    have t0 : (n == n) = true := by simp
    generalize cmpV a a' = cv at *
    rw [HS.out]
    clear hx2 hy2 hv hv' h1 h2 ha ha' h3 h4 HS
    cases n
    all_goals
      go_enter Tryd.func65, Tryd.ntmps65
      go_wp2_with fail
      refine region_gw (by kernel_rfl) (by kernel_rfl) ?_
      intro W hW
      have hq17 := gw_cell (w := W) (a := ⟨bx, ox, none⟩) (x := .bool _) (by rw [hW]; first | (simp; done) | (simp; omega) | omega) (by rw [hW]; first | assumption | (simp [go_sem]; done) | (simp [*, go_sem]; done))
      have hq18 := gw_cell (w := W) (a := ⟨b2, oy, none⟩) (x := .bool _) (by rw [hW]; first | (simp; done) | (simp; omega) | omega) (by rw [hW]; first | assumption | (simp [go_sem]; done) | (simp [*, go_sem]; done))
      clear hW
      repeat (go_big_quiet_step (fail))
      refine wpQuiet_nil ?_
      clear hq17 hq18
      intro w1 hw1
      have hg1 := hw1
      have d1 := hw1.cell (p := ⟨bx, ox, none⟩) hbx c1
      have d2 := hw1.cell (p := ⟨bx, ox + 1, none⟩) hbx c2
      have d3 := hw1.cell (p := ⟨b2, oy + 1, none⟩) hby c4
      go_wp2_with fail
      clear c1 c2 c3 c4 hw1
      have hbx1 : bx < w1.heap.size := G.lt hg1 hbx
      have hby1 : b2 < w1.heap.size := G.lt hg1 hby
      have HW1 : Hid (∀ w2, G w1 w2 → _) := fun w2 g => HW.out w2 (G.trans hg1 g)
      refine region_J 9 (G w1) (by kernel_rfl) (by first | exact (G.refl _).drew | exact G.drew (by assumption)) ?_
      intro hSh
      refine wpAnyJ_take (i := 0) (v := ?_) rfl (by kernel_rfl) (by kernel_rfl) (by kernel_rfl) (by kernel_rfl) (by kernel_rfl) (by kernel_rfl) (by kernel_rfl) (fun _ _ _ h => h) (Or.inl ⟨by rfl, ?_⟩) (by assumption) ?_
      rotate_left
      · intro wq hwq
        have hq1 := G.cell (p := ⟨bx, ox + 1, none⟩) (v := v) hwq (by first | assumption | (simp; done) | (simp; omega) | omega) (by assumption)
        have hq2 := G.cell (p := ⟨b2, oy + 1, none⟩) (v := v') hwq (by first | assumption | (simp; done) | (simp; omega) | omega) (by assumption)
        first | (go_simp; done) | (go_simp; with_reducible rfl)
      try simp only [Act.put, List.setIfInBounds_toArray, List.set_cons_zero, List.set_cons_succ]
      refine wpAnyJ_take (i := 1) (v := ?_) rfl (by kernel_rfl) (by kernel_rfl) (by kernel_rfl) (by kernel_rfl) (by kernel_rfl) (by kernel_rfl) (by kernel_rfl) (fun _ _ _ h => h) (Or.inl ⟨by rfl, ?_⟩) (by assumption) ?_
      rotate_left
      · intro wq hwq
        have hq3 := G.cell (p := ⟨bx, ox + 1, none⟩) (v := v) hwq (by first | assumption | (simp; done) | (simp; omega) | omega) (by assumption)
        have hq4 := G.cell (p := ⟨b2, oy + 1, none⟩) (v := v') hwq (by first | assumption | (simp; done) | (simp; omega) | omega) (by assumption)
        first | (go_simp; done) | (go_simp; with_reducible rfl)
      try simp only [Act.put, List.setIfInBounds_toArray, List.set_cons_zero, List.set_cons_succ]
      refine wpAnyJ_take (i := 2) (v := ?_) rfl (by kernel_rfl) (by kernel_rfl) (by kernel_rfl) (by kernel_rfl) (by kernel_rfl) (by kernel_rfl) (by kernel_rfl) (fun _ _ _ h => h) (Or.inl ⟨by rfl, ?_⟩) (by assumption) ?_
      rotate_left
      · intro wq hwq
        have hq5 := G.cell (p := ⟨bx, ox + 1, none⟩) (v := v) hwq (by first | assumption | (simp; done) | (simp; omega) | omega) (by assumption)
        have hq6 := G.cell (p := ⟨b2, oy + 1, none⟩) (v := v') hwq (by first | assumption | (simp; done) | (simp; omega) | omega) (by assumption)
        first | (go_simp; done) | (go_simp; with_reducible rfl)
      try simp only [Act.put, List.setIfInBounds_toArray, List.set_cons_zero, List.set_cons_succ]
      refine wpAnyJ_take (i := 3) (v := ?_) rfl (by kernel_rfl) (by kernel_rfl) (by kernel_rfl) (by kernel_rfl) (by kernel_rfl) (by kernel_rfl) (by kernel_rfl) (fun _ _ _ h => h) (Or.inl ⟨by rfl, ?_⟩) (by assumption) ?_
      rotate_left
      · intro wq hwq
        have hq7 := G.cell (p := ⟨bx, ox + 1, none⟩) (v := v) hwq (by first | assumption | (simp; done) | (simp; omega) | omega) (by assumption)
        have hq8 := G.cell (p := ⟨b2, oy + 1, none⟩) (v := v') hwq (by first | assumption | (simp; done) | (simp; omega) | omega) (by assumption)
        first | (go_simp; done) | (go_simp; with_reducible rfl)
      try simp only [Act.put, List.setIfInBounds_toArray, List.set_cons_zero, List.set_cons_succ]
      refine wpAnyJ_take (i := 4) (v := ?_) rfl (by kernel_rfl) (by kernel_rfl) (by kernel_rfl) (by kernel_rfl) (by kernel_rfl) (by kernel_rfl) (by kernel_rfl) (fun _ _ _ h => h) (Or.inl ⟨by rfl, ?_⟩) (by assumption) ?_
      rotate_left
      · intro wq hwq
        have hq9 := G.cell (p := ⟨bx, ox + 1, none⟩) (v := v) hwq (by first | assumption | (simp; done) | (simp; omega) | omega) (by assumption)
        have hq10 := G.cell (p := ⟨b2, oy + 1, none⟩) (v := v') hwq (by first | assumption | (simp; done) | (simp; omega) | omega) (by assumption)
        first | (go_simp; done) | (go_simp; with_reducible rfl)
      try simp only [Act.put, List.setIfInBounds_toArray, List.set_cons_zero, List.set_cons_succ]
      refine wpAnyJ_take (i := 5) (v := ?_) rfl (by kernel_rfl) (by kernel_rfl) (by kernel_rfl) (by kernel_rfl) (by kernel_rfl) (by kernel_rfl) (by kernel_rfl) (fun _ _ _ h => h) (Or.inl ⟨by rfl, ?_⟩) (by assumption) ?_
      rotate_left
      · intro wq hwq
        have hq11 := G.cell (p := ⟨bx, ox + 1, none⟩) (v := v) hwq (by first | assumption | (simp; done) | (simp; omega) | omega) (by assumption)
        have hq12 := G.cell (p := ⟨b2, oy + 1, none⟩) (v := v') hwq (by first | assumption | (simp; done) | (simp; omega) | omega) (by assumption)
        first | (go_simp; done) | (go_simp; with_reducible rfl)
      try simp only [Act.put, List.setIfInBounds_toArray, List.set_cons_zero, List.set_cons_succ]
      refine wpAnyJ_take (i := 6) (v := ?_) rfl (by kernel_rfl) (by kernel_rfl) (by kernel_rfl) (by kernel_rfl) (by kernel_rfl) (by kernel_rfl) (by kernel_rfl) (fun _ _ _ h => h) (Or.inl ⟨by rfl, ?_⟩) (by assumption) ?_
      rotate_left
      · intro wq hwq
        have hq13 := G.cell (p := ⟨bx, ox + 1, none⟩) (v := v) hwq (by first | assumption | (simp; done) | (simp; omega) | omega) (by assumption)
        have hq14 := G.cell (p := ⟨b2, oy + 1, none⟩) (v := v') hwq (by first | assumption | (simp; done) | (simp; omega) | omega) (by assumption)
        first | (go_simp; done) | (go_simp; with_reducible rfl)
      try simp only [Act.put, List.setIfInBounds_toArray, List.set_cons_zero, List.set_cons_succ]
      refine wpAnyJ_take (i := 7) (v := ?_) rfl (by kernel_rfl) (by kernel_rfl) (by kernel_rfl) (by kernel_rfl) (by kernel_rfl) (by kernel_rfl) (by kernel_rfl) (fun _ _ _ h => h) (Or.inl ⟨by rfl, ?_⟩) (by assumption) ?_
      rotate_left
      · intro wq hwq
        have hq15 := G.cell (p := ⟨bx, ox + 1, none⟩) (v := v) hwq (by first | assumption | (simp; done) | (simp; omega) | omega) (by assumption)
        have hq16 := G.cell (p := ⟨b2, oy + 1, none⟩) (v := v') hwq (by first | assumption | (simp; done) | (simp; omega) | omega) (by assumption)
        first | (go_simp; done) | (go_simp; with_reducible rfl)
      try simp only [Act.put, List.setIfInBounds_toArray, List.set_cons_zero, List.set_cons_succ]
      refine wpAnyJ_next (i := 8) (by kernel_rfl) rfl ?_
      intro K hK
      go_simp
      go_wp2_with (go_at_call 67; refine Calls.mono (P := Tryd.prog) (HW1.out _ hSh) ?_; rintro e w2 ⟨rfl, hg2⟩)
      refine hK.out _ _ (Or.inr (G.trans hSh hg2)) ?_
      clear hK K
      refine wpAnyJ_next (i := 9) (by kernel_rfl) rfl ?_
      intro K hK
      go_simp
      refine hK.out _ _ (Or.inl (by decide)) ?_
      clear hK K
      refine wpAnyJ_done (by kernel_rfl) ?_ _
      have e1 := (G.trans hSh hg2).cell hbx1 d1
      go_wp2_with fail
      go_ret
      exact ⟨rfl, G.trans hg1 (G.trans hSh hg2)⟩
  · have t0 : (n == n') = false := by simp [hn]
    obtain rfl : n' = !n := by cases n <;> cases n' <;> simp_all
    have HS : Hid (cmpI sx sy = if n then -1 else 1) := by
      show cmpI sx sy = _
      rw [← h1, ← h2]
      unfold cmpI sg
      cases n
      · have := h4 rfl
        simp only [Bool.false_eq_true, if_false, Bool.not_false, if_true]
        rw [if_neg (by omega), if_neg (by omega)]
      · have := h3 rfl
        simp only [Bool.not_true, Bool.false_eq_true, if_false, if_true]
        rw [if_pos (by omega)]
    rw [HS.out]
    clear hx2 hy2 hv hv' h1 h2 ha ha' h3 h4 HS HW
    cases n
    all_goals
      go_enter Tryd.func65, Tryd.ntmps65
      go_wp2_with fail
      refine region_gw (by kernel_rfl) (by kernel_rfl) ?_
      intro W hW
      have hq19 := gw_cell (w := W) (a := ⟨bx, ox, none⟩) (x := .bool _) (by rw [hW]; first | (simp; done) | (simp; omega) | omega) (by rw [hW]; first | assumption | (simp [go_sem]; done) | (simp [*, go_sem]; done))
      have hq20 := gw_cell (w := W) (a := ⟨b2, oy, none⟩) (x := .bool _) (by rw [hW]; first | (simp; done) | (simp; omega) | omega) (by rw [hW]; first | assumption | (simp [go_sem]; done) | (simp [*, go_sem]; done))
      clear hW
      repeat (go_big_quiet_step (fail))
      refine wpQuiet_nil ?_
      clear hq19 hq20
      intro w1 hw1
      have d1 := hw1.cell (p := ⟨bx, ox, none⟩) hbx c1
      go_wp2_with fail
      go_ret
      exact ⟨rfl, hw1⟩

theorem bit_c (w : World) (va : Value) (a i K : Nat) (hK : K ≤ 1000000) (hi : i ≤ 40000000) (ha : Num w va a) (ha2 : a < 2 ^ (32 * K)) :
    Calls Tryd.prog 96 #[va, .int .i64 (i : Int)] w fun e w' => e = .returned (.int .u64 ((a / 2 ^ i % 2 : Nat) : Int)) ∧ G w w' := by
  obtain ⟨l, hl, hcl, rfl⟩ := ha
  have hll := canon_len hcl ha2
  have hokl := hl.1
  obtain ⟨pa, ca, rfl, hca, hra⟩ := sl_at hl
  have hd1 : (i : Int) / 32 = ((i / 32 : Nat) : Int) := by omega
  have hd2 : (i : Int) % 32 = ((i % 32 : Nat) : Int) := by omega
  have hii : i = 32 * (i / 32) + i % 32 := by omega
  have hvd := val_drop hokl (i / 32)
  have hr : val l / 2 ^ i % 2 = l.getD (i / 32) 0 / 2 ^ (i % 32) % 2 := by
    have e : val l / 2 ^ i = val (l.drop (i / 32)) / 2 ^ (i % 32) := by
      rw [hvd, Nat.div_div_eq_div_mul, ← Nat.pow_add, ← hii]
    rw [e]
    by_cases h : i / 32 < l.length
    · rw [drop_getD h]
      show (l.getD (i / 32) 0 + 2 ^ 32 * val (l.drop (i / 32 + 1))) / 2 ^ (i % 32) % 2 = _
      have h2 : 2 ^ 32 * val (l.drop (i / 32 + 1)) = 2 ^ (i % 32) * (2 * (2 ^ (31 - i % 32) * val (l.drop (i / 32 + 1)))) := by
        rw [← Nat.mul_assoc 2, ← Nat.pow_succ', ← Nat.mul_assoc, ← Nat.pow_add, show i % 32 + (31 - i % 32 + 1) = 32 from by omega]
      rw [h2, Nat.add_mul_div_left _ _ (Nat.two_pow_pos _), Nat.add_mul_mod_self_left]
    · rw [List.drop_eq_nil_of_le (by omega), List.getD_eq_getElem?_getD, List.getElem?_eq_none (by omega)]
      simp [val]
  rw [hr]
  have hs : ((i % 32 : Nat) : Int) ≤ 31 := by omega
  have hib : (i : Int) ≤ 40000000 := by omega
  have hwi : IntKind.u64.wrap (i : Int) = i := by rw [IntKind.wrap_u64]; omega
  have hx := okw_getD hokl (i / 32)
  generalize hq : i / 32 = q at *
  generalize hsn : i % 32 = s at *
  have hand := fun x (h : x < 2 ^ 32) => and_one x h
  by_cases hqj : q < l.length
  · obtain ⟨b1, o1, rfl, hB1, hc1⟩ := hra q hqj
    have h3 : l.getD q 0 / 2 ^ s < 2 ^ 32 := Nat.lt_of_le_of_lt (Nat.div_le_self _ _) hx
    have h4 := and_one _ h3
    have hxi : ((l.getD q 0 : Nat) : Int) ≤ 4294967295 := by omega
    generalize hj : l.length = j at *
    generalize l.getD q 0 = x at *
    have h5 : (x : Int) / 2 ^ s = ((x / 2 ^ s : Nat) : Int) := by push_cast; rfl
    have h6 : ((x / 2 ^ s : Nat) : Int) ≤ 4294967295 := by omega
    generalize x / 2 ^ s = y at *
    have h7 : ((y % 2 : Nat) : Int) ≤ 1 := by omega
    have h8 : bits .and .u64 (y : Int) 1 = ((y % 2 : Nat) : Int) := by
      have := u64_and_nat y 1 (by omega) (by omega)
      rw [Nat.and_one_is_mod] at this
      exact this
    generalize y % 2 = z at *
    have t0 : decide (j ≤ q) = false := by simp; omega
    have t1 : decide ((i : Int) < 0) = false := by simp
    have hjb : (j : Int) ≤ 1000000 := by omega
    have hqb : (q : Int) ≤ 1250000 := by omega
    have hqj' : (q : Int) < j := by omega
    clear hr hvd hii hx h3 hcl hl hokl hll ha2 hra hand hq hsn hj
    go_enter Tryd.func96, Tryd.ntmps96
    go_wp2_with fail
    go_ret
    exact ⟨rfl, G.refl _⟩
  · have hz : l.getD q 0 = 0 := by rw [List.getD_eq_getElem?_getD, List.getElem?_eq_none (by omega)]; rfl
    rw [hz]
    generalize hj : l.length = j at *
    have t0 : decide (j ≤ q) = true := by simp; omega
    have t1 : decide ((i : Int) < 0) = false := by simp
    clear hr hvd hii hx hcl hl hokl hll ha2 hra hand hq hsn hj hz hqj
    go_enter Tryd.func96, Tryd.ntmps96
    go_wp2_with fail
    go_ret
    exact ⟨by simp, G.refl _⟩

theorem bitI_c (w : World) (b o i : Nat) (s : Int) (K : Nat) (hK : K ≤ 1000000) (hi : i ≤ 40000000) (hs : s.natAbs < 2 ^ (32 * K)) (h0 : 0 ≤ s) (hz : IntIs w b o s) :
    Calls Tryd.prog 85 #[.pointer (some ⟨b, o, none⟩), .int .i64 (i : Int)] w fun e w' => e = .returned (.int .u64 ((s.natAbs / 2 ^ i % 2 : Nat) : Int)) ∧ G w w' := by
  obtain ⟨n, v, a, ⟨c1, c2, -, -⟩, hv, h1, h2⟩ := hz
  have ha := sg_abs h1
  have hn : n = false := by
    cases n
    · rfl
    · have := h2 rfl
      unfold sg at h1
      simp at h1
      omega
  subst hn
  rw [← ha] at hs ⊢
  have HW : Hid _ := bit_c w v a i K hK hi hv hs
  have t1 : decide ((i : Int) < 0) = false := by simp
  generalize a / 2 ^ i % 2 = z at *
  clear ha h1 h2 hv hs hi
  go_enter Tryd.func85, Tryd.ntmps85
  go_wp2_with fail
  refine Calls.mono (P := Tryd.prog) HW.out ?_
  rintro e w2 ⟨rfl, hg2⟩
  go_wp2_with fail
  go_ret
  exact ⟨rfl, hg2⟩

end Go.Proofs.YtkelfdhpekkiaacDoor
namespace Go.Proofs.YtkelfdhpekkiaacDoor
open Go.ChangeShapes Go.WideShapes Go.ChangeAt Go.RowKit
open BN

/-- What a writing method leaves of a cell that it doesn't write. -/
theorem SetTo.cell {w w' : World} {b o : Nat} {s : Int} {e : Ending} (h : SetTo w b o s e w') {p : Addr} {v : Value} (hp : p.block < w.heap.size) (hs : p.spot = none) (hv : w.cell? p = some v) (hne : p.block ≠ b ∨ (p.off ≠ o ∧ p.off ≠ o + 1)) : w'.cell? p = some v := by
  obtain ⟨-, h1, h2, -⟩ := h
  by_cases hb : p.block = b
  · obtain ⟨pb, po, ps⟩ := p
    simp only at hb hs hne
    subst hb hs
    have hoo : po ≠ o ∧ po ≠ o + 1 := by rcases hne with hne | hne; exact absurd rfl hne; exact hne
    rw [h2.1 po hoo.1 hoo.2]; exact hv
  · rw [← hv]; exact World.cell?_of_block (h1.block p.block hp (fun e => hb (Option.some.inj e)))
theorem SetTo.frozen {w w' : World} {b o : Nat} {s : Int} {e : Ending} (h : SetTo w b o s e w') {p : Addr} {v : Bool} (hp : p.block < w.heap.size) (hs : p.spot = none) (hv : w.frozen? p = v) : w'.frozen? p = v := by
  obtain ⟨-, h1, h2, -⟩ := h
  by_cases hb : p.block = b
  · obtain ⟨pb, po, ps⟩ := p
    simp only at hb hs
    subst hb hs
    rw [h2.2 po]; exact hv
  · rw [← hv]; exact World.frozen?_of_block (h1.block p.block hp (fun e => hb (Option.some.inj e)))
theorem SetTo.size {w w' : World} {b o : Nat} {s : Int} {e : Ending} (h : SetTo w b o s e w') : w.heap.size ≤ w'.heap.size := h.2.1.size
theorem SetTo.is {w w' : World} {b o : Nat} {s : Int} {e : Ending} (h : SetTo w b o s e w') : IntIs w' b o s := h.2.2.2
theorem SetTo.num {w w' : World} {b o : Nat} {s0 s : Int} {e : Ending} (hz : IntIs w b o s0) (h : SetTo w b o s e w') {v : Value} {n : Nat} (hn : Num w v n) : Num w' v n := by
  obtain ⟨n0, v0, a0, ⟨c1, c2, -, -⟩, hv0, -, -⟩ := hz
  obtain ⟨l, ⟨h1, h2⟩, h3⟩ := hn
  refine ⟨l, ⟨h1, ?_⟩, h3⟩
  rcases h2 with h2 | ⟨b1, o1, c, e1, hc, hb, hr⟩
  · exact Or.inl h2
  · refine Or.inr ⟨b1, o1, c, e1, hc, Nat.lt_of_lt_of_le hb h.size, fun i hi => ?_⟩
    have hci := hr i hi
    refine h.cell (p := ⟨b1, o1 + i, none⟩) hb rfl hci ?_
    by_cases hbb : b1 = b
    · refine Or.inr ⟨fun e2 => ?_, fun e2 => ?_⟩
      · simp only at e2; subst hbb; rw [e2, c1] at hci; cases hci
      · simp only at e2; subst hbb; rw [e2, c2] at hci; exact num_slice hv0 _ _ (Option.some.inj hci)
    · exact Or.inl hbb
/-- Another Int stands still. -/
theorem SetTo.keep {w w' : World} {b o b2 o2 : Nat} {s0 s s2 : Int} {e : Ending} (hz : IntIs w b o s0) (h : SetTo w b o s e w') (hx : IntIs w b2 o2 s2) (hb2 : b2 < w.heap.size) (hne : b2 ≠ b ∨ o2 + 2 ≤ o ∨ o + 2 ≤ o2) : IntIs w' b2 o2 s2 := by
  obtain ⟨n, v, a, ⟨c1, c2, f1, f2⟩, hv, h1, h2⟩ := hx
  refine ⟨n, v, a, ⟨h.cell hb2 rfl c1 ?_, h.cell hb2 rfl c2 ?_, h.frozen hb2 rfl f1, h.frozen hb2 rfl f2⟩, h.num hz hv, h1, h2⟩
  · rcases hne with h | h
    · exact Or.inl h
    · exact Or.inr ⟨by simp only; omega, by simp only; omega⟩
  · rcases hne with h | h
    · exact Or.inl h
    · exact Or.inr ⟨by simp only; omega, by simp only; omega⟩
/-- Behind it, nothing of an elder world has turned, where the block is newer. -/
theorem SetTo.fresh {w0 w w' : World} {b o : Nat} {s : Int} {e : Ending} (g : G w0 w) (h : SetTo w b o s e w') (hb : w0.heap.size ≤ b) : G w0 w' := GX.fresh g h.2.1 hb

/-- What QuoRem leaves behind. -/
def QR (w : World) (b o b3 o3 : Nat) (sq sr : Int) (e : Ending) (w' : World) : Prop :=
  e = .returned (.tuple #[.pointer (some ⟨b, o, none⟩), .pointer (some ⟨b3, o3, none⟩)]) ∧ ∃ w2 e1 e2, SetTo w b o sq e1 w2 ∧ SetTo w2 b3 o3 sr e2 w'

theorem sg_div (n n' : Bool) (a a' : Nat) : sg (!(n == n')) (a / a') = Int.tdiv (sg n a) (sg n' a') := by
  unfold sg
  cases n <;> cases n' <;> simp [Int.tdiv_neg, Int.neg_tdiv]
theorem sg_mod (n n' : Bool) (a a' : Nat) : sg n (a % a') = Int.tmod (sg n a) (sg n' a') := by
  unfold sg
  cases n <;> cases n' <;> simp [Int.tmod_neg, Int.neg_tmod] <;> exact (Int.tmod_eq_emod_of_nonneg (by omega)).symm

theorem quoRem_c (w : World) (b o bx ox b2 oy b3 o3 : Nat) (s0 s3 sx sy : Int) (K : Nat) (hK : K ≤ 300000) (hx2 : sx.natAbs < 2 ^ (32 * K)) (hy2 : sy.natAbs < 2 ^ (32 * K)) (hy0 : sy ≠ 0) (hb : b < w.heap.size) (hb3 : b3 < w.heap.size) (hbx : bx < w.heap.size) (hby : b2 < w.heap.size)
    (hz : IntIs w b o s0) (hr : IntIs w b3 o3 s3) (hne : b3 ≠ b ∨ o3 + 2 ≤ o ∨ o + 2 ≤ o3) (hx : IntIs w bx ox sx) (hy : IntIs w b2 oy sy) :
    Calls Tryd.prog 84 #[.pointer (some ⟨b, o, none⟩), .pointer (some ⟨bx, ox, none⟩), .pointer (some ⟨b2, oy, none⟩), .pointer (some ⟨b3, o3, none⟩)] w (QR w b o b3 o3 (Int.tdiv sx sy) (Int.tmod sx sy)) := by
  obtain ⟨n, v, a, ⟨c1, c2, -, -⟩, hv, h1, -⟩ := hx
  obtain ⟨n', v', a', ⟨c3, c4, -, -⟩, hv', h2, -⟩ := hy
  have ha := sg_abs h1
  have ha' := sg_abs h2
  have HW : Hid (∀ w1, G w w1 → _) := fun w1 g => div_c w1 v v' a a' K hK (hv.G g) (hv'.G g) (by omega) (by omega) (by omega)
  have HZ : Hid _ := hz
  have HR : Hid _ := hr
  have HS : Hid (sg (!(n == n')) (a / a') = Int.tdiv sx sy) := by rw [sg_div, h1, h2]; exact rfl
  have HS2 : Hid (sg n (a % a') = Int.tmod sx sy) := by rw [sg_mod n n', h1, h2]; exact rfl
  have HNE : Hid _ := hne
  generalize a / a' = dq at *
  generalize a % a' = dr at *
  clear hz hr hx2 hy2 hv hv' h1 h2 ha ha' hy0 hne
  go_enter Tryd.func84, Tryd.ntmps84
  go_wp2_with fail
  refine region_gw (by kernel_rfl) (by kernel_rfl) ?_
  intro W hW
  have hq17 := gw_cell (w := W) (a := ⟨bx, ox, none⟩) (x := .bool n) (by rw [hW]; first | (simp; done) | (simp; omega) | omega) (by rw [hW]; first | assumption | (simp [go_sem]; done) | (simp [*, go_sem]; done))
  have hq18 := gw_cell (w := W) (a := ⟨b2, oy, none⟩) (x := .bool n') (by rw [hW]; first | (simp; done) | (simp; omega) | omega) (by rw [hW]; first | assumption | (simp [go_sem]; done) | (simp [*, go_sem]; done))
  clear hW
  repeat (go_big_quiet_step (fail))
  refine wpQuiet_nil ?_
  clear hq17 hq18
  intro w1 hw1
  have d2 := hw1.cell (p := ⟨bx, ox + 1, none⟩) hbx c2
  have d4 := hw1.cell (p := ⟨b2, oy + 1, none⟩) hby c4
  have hbx1 : bx < w1.heap.size := G.lt hw1 hbx
  have hby1 : b2 < w1.heap.size := G.lt hw1 hby
  clear c1 c2 c3 c4
  go_wp2_with fail
  have HW1 : Hid (∀ w2, G w1 w2 → _) := fun w2 g => HW.out w2 (G.trans hw1 g)
  refine region_J 13 (G w1) (by kernel_rfl) (by first | exact (G.refl _).drew | exact G.drew (by assumption)) ?_
  intro hSh
  refine wpAnyJ_take (i := 0) (v := ?_) rfl (by kernel_rfl) (by kernel_rfl) (by kernel_rfl) (by kernel_rfl) (by kernel_rfl) (by kernel_rfl) (by kernel_rfl) (fun _ _ _ h => h) (Or.inl ⟨by rfl, ?_⟩) (by assumption) ?_
  rotate_left
  · intro wq hwq
    have hq1 := G.cell (p := ⟨bx, ox + 1, none⟩) (v := v) hwq (by first | assumption | (simp; done) | (simp; omega) | omega) (by assumption)
    have hq2 := G.cell (p := ⟨b2, oy + 1, none⟩) (v := v') hwq (by first | assumption | (simp; done) | (simp; omega) | omega) (by assumption)
    first | (go_simp; done) | (go_simp; with_reducible rfl)
  try simp only [Act.put, List.setIfInBounds_toArray, List.set_cons_zero, List.set_cons_succ]
  refine wpAnyJ_take (i := 1) (v := ?_) rfl (by kernel_rfl) (by kernel_rfl) (by kernel_rfl) (by kernel_rfl) (by kernel_rfl) (by kernel_rfl) (by kernel_rfl) (fun _ _ _ h => h) (Or.inl ⟨by rfl, ?_⟩) (by assumption) ?_
  rotate_left
  · intro wq hwq
    have hq3 := G.cell (p := ⟨bx, ox + 1, none⟩) (v := v) hwq (by first | assumption | (simp; done) | (simp; omega) | omega) (by assumption)
    have hq4 := G.cell (p := ⟨b2, oy + 1, none⟩) (v := v') hwq (by first | assumption | (simp; done) | (simp; omega) | omega) (by assumption)
    first | (go_simp; done) | (go_simp; with_reducible rfl)
  try simp only [Act.put, List.setIfInBounds_toArray, List.set_cons_zero, List.set_cons_succ]
  refine wpAnyJ_take (i := 2) (v := ?_) rfl (by kernel_rfl) (by kernel_rfl) (by kernel_rfl) (by kernel_rfl) (by kernel_rfl) (by kernel_rfl) (by kernel_rfl) (fun _ _ _ h => h) (Or.inl ⟨by rfl, ?_⟩) (by assumption) ?_
  rotate_left
  · intro wq hwq
    have hq5 := G.cell (p := ⟨bx, ox + 1, none⟩) (v := v) hwq (by first | assumption | (simp; done) | (simp; omega) | omega) (by assumption)
    have hq6 := G.cell (p := ⟨b2, oy + 1, none⟩) (v := v') hwq (by first | assumption | (simp; done) | (simp; omega) | omega) (by assumption)
    first | (go_simp; done) | (go_simp; with_reducible rfl)
  try simp only [Act.put, List.setIfInBounds_toArray, List.set_cons_zero, List.set_cons_succ]
  refine wpAnyJ_take (i := 3) (v := ?_) rfl (by kernel_rfl) (by kernel_rfl) (by kernel_rfl) (by kernel_rfl) (by kernel_rfl) (by kernel_rfl) (by kernel_rfl) (fun _ _ _ h => h) (Or.inl ⟨by rfl, ?_⟩) (by assumption) ?_
  rotate_left
  · intro wq hwq
    have hq7 := G.cell (p := ⟨bx, ox + 1, none⟩) (v := v) hwq (by first | assumption | (simp; done) | (simp; omega) | omega) (by assumption)
    have hq8 := G.cell (p := ⟨b2, oy + 1, none⟩) (v := v') hwq (by first | assumption | (simp; done) | (simp; omega) | omega) (by assumption)
    first | (go_simp; done) | (go_simp; with_reducible rfl)
  try simp only [Act.put, List.setIfInBounds_toArray, List.set_cons_zero, List.set_cons_succ]
  refine wpAnyJ_take (i := 4) (v := ?_) rfl (by kernel_rfl) (by kernel_rfl) (by kernel_rfl) (by kernel_rfl) (by kernel_rfl) (by kernel_rfl) (by kernel_rfl) (fun _ _ _ h => h) (Or.inl ⟨by rfl, ?_⟩) (by assumption) ?_
  rotate_left
  · intro wq hwq
    have hq9 := G.cell (p := ⟨bx, ox + 1, none⟩) (v := v) hwq (by first | assumption | (simp; done) | (simp; omega) | omega) (by assumption)
    have hq10 := G.cell (p := ⟨b2, oy + 1, none⟩) (v := v') hwq (by first | assumption | (simp; done) | (simp; omega) | omega) (by assumption)
    first | (go_simp; done) | (go_simp; with_reducible rfl)
  try simp only [Act.put, List.setIfInBounds_toArray, List.set_cons_zero, List.set_cons_succ]
  refine wpAnyJ_take (i := 5) (v := ?_) rfl (by kernel_rfl) (by kernel_rfl) (by kernel_rfl) (by kernel_rfl) (by kernel_rfl) (by kernel_rfl) (by kernel_rfl) (fun _ _ _ h => h) (Or.inl ⟨by rfl, ?_⟩) (by assumption) ?_
  rotate_left
  · intro wq hwq
    have hq11 := G.cell (p := ⟨bx, ox + 1, none⟩) (v := v) hwq (by first | assumption | (simp; done) | (simp; omega) | omega) (by assumption)
    have hq12 := G.cell (p := ⟨b2, oy + 1, none⟩) (v := v') hwq (by first | assumption | (simp; done) | (simp; omega) | omega) (by assumption)
    first | (go_simp; done) | (go_simp; with_reducible rfl)
  try simp only [Act.put, List.setIfInBounds_toArray, List.set_cons_zero, List.set_cons_succ]
  refine wpAnyJ_take (i := 6) (v := ?_) rfl (by kernel_rfl) (by kernel_rfl) (by kernel_rfl) (by kernel_rfl) (by kernel_rfl) (by kernel_rfl) (by kernel_rfl) (fun _ _ _ h => h) (Or.inl ⟨by rfl, ?_⟩) (by assumption) ?_
  rotate_left
  · intro wq hwq
    have hq13 := G.cell (p := ⟨bx, ox + 1, none⟩) (v := v) hwq (by first | assumption | (simp; done) | (simp; omega) | omega) (by assumption)
    have hq14 := G.cell (p := ⟨b2, oy + 1, none⟩) (v := v') hwq (by first | assumption | (simp; done) | (simp; omega) | omega) (by assumption)
    first | (go_simp; done) | (go_simp; with_reducible rfl)
  try simp only [Act.put, List.setIfInBounds_toArray, List.set_cons_zero, List.set_cons_succ]
  refine wpAnyJ_take (i := 7) (v := ?_) rfl (by kernel_rfl) (by kernel_rfl) (by kernel_rfl) (by kernel_rfl) (by kernel_rfl) (by kernel_rfl) (by kernel_rfl) (fun _ _ _ h => h) (Or.inl ⟨by rfl, ?_⟩) (by assumption) ?_
  rotate_left
  · intro wq hwq
    have hq15 := G.cell (p := ⟨bx, ox + 1, none⟩) (v := v) hwq (by first | assumption | (simp; done) | (simp; omega) | omega) (by assumption)
    have hq16 := G.cell (p := ⟨b2, oy + 1, none⟩) (v := v') hwq (by first | assumption | (simp; done) | (simp; omega) | omega) (by assumption)
    first | (go_simp; done) | (go_simp; with_reducible rfl)
  try simp only [Act.put, List.setIfInBounds_toArray, List.set_cons_zero, List.set_cons_succ]
  refine wpAnyJ_next (i := 8) (by kernel_rfl) rfl ?_
  intro K hK
  go_simp
  go_wp2_with (go_at_call 75; refine Calls.mono (P := Tryd.prog) (HW1.out _ hSh) ?_; rintro e w2 ⟨vq, vr, rfl, hg2, hn2, hn3⟩)
  refine hK.out _ _ (Or.inr (G.trans hSh hg2)) ?_
  clear hK K
  have hSh2 : G w1 w2 := G.trans hSh hg2
  refine wpAnyJ_take (i := 9) (v := ?_) rfl (by kernel_rfl) (by kernel_rfl) (by kernel_rfl) (by kernel_rfl) (by kernel_rfl) (by kernel_rfl) (by kernel_rfl) (fun _ _ _ h => h) (Or.inl ⟨by rfl, ?_⟩) (by assumption) ?_
  rotate_left
  · intro wq hwq
    first | (go_simp; done) | (go_simp; with_reducible rfl)
  try simp only [Act.put, List.setIfInBounds_toArray, List.set_cons_zero, List.set_cons_succ]
  refine wpAnyJ_take (i := 10) (v := ?_) rfl (by kernel_rfl) (by kernel_rfl) (by kernel_rfl) (by kernel_rfl) (by kernel_rfl) (by kernel_rfl) (by kernel_rfl) (fun _ _ _ h => h) (Or.inl ⟨by rfl, ?_⟩) (by assumption) ?_
  rotate_left
  · intro wq hwq
    first | (go_simp; done) | (go_simp; with_reducible rfl)
  try simp only [Act.put, List.setIfInBounds_toArray, List.set_cons_zero, List.set_cons_succ]
  refine wpAnyJ_take (i := 11) (v := ?_) rfl (by kernel_rfl) (by kernel_rfl) (by kernel_rfl) (by kernel_rfl) (by kernel_rfl) (by kernel_rfl) (by kernel_rfl) (fun _ _ _ h => h) (Or.inl ⟨by rfl, ?_⟩) (by assumption) ?_
  rotate_left
  · intro wq hwq
    first | (go_simp; done) | (go_simp; with_reducible rfl)
  try simp only [Act.put, List.setIfInBounds_toArray, List.set_cons_zero, List.set_cons_succ]
  refine wpAnyJ_take (i := 12) (v := ?_) rfl (by kernel_rfl) (by kernel_rfl) (by kernel_rfl) (by kernel_rfl) (by kernel_rfl) (by kernel_rfl) (by kernel_rfl) (fun _ _ _ h => h) (Or.inl ⟨by rfl, ?_⟩) (by assumption) ?_
  rotate_left
  · intro wq hwq
    first | (go_simp; done) | (go_simp; with_reducible rfl)
  try simp only [Act.put, List.setIfInBounds_toArray, List.set_cons_zero, List.set_cons_succ]
  refine wpAnyJ_next (i := 13) (by kernel_rfl) rfl ?_
  intro K hK
  go_simp
  refine hK.out _ _ (Or.inl (by decide)) ?_
  clear hK K
  refine wpAnyJ_done (by kernel_rfl) ?_ _
  have hG2 : G w w2 := G.trans hw1 hSh2
  have HN2 : Hid _ := hn2
  have HN3 : Hid _ := hn3
  clear hSh hSh2 hg2 d2 d4 hn2 hn3
  have HZ2 := IntIs.G HZ.out hb hG2
  have HR2 := IntIs.G HR.out hb3 hG2
  have HZ2' : Hid _ := HZ2
  have HR2' : Hid _ := HR2
  clear HZ2 HR2
  go_wp2_with fail
  refine Calls.mono (P := Tryd.prog) (give_is w2 b o (!(n == n')) s0 _ _ HZ2'.out HN2.out) ?_
  rintro e w3 ⟨rfl, k1, k2, k3⟩
  have hs3' : SetTo w2 b o (sg (!(n == n')) dq) (.returned (.pointer (some ⟨b, o, none⟩))) w3 := ⟨rfl, k1, k2, k3⟩
  have HN3' : Hid _ := SetTo.num HZ2'.out hs3' HN3.out
  have HR3 : Hid _ := SetTo.keep HZ2'.out hs3' HR2'.out (G.lt hG2 hb3) HNE.out
  have hs3 := SetTo.after hb hG2 hs3'
  rw [HS.out] at hs3
  have HS3 : Hid (SetTo w b o (Int.tdiv sx sy) (.returned (.pointer (some ⟨b, o, none⟩))) w3) := hs3
  clear k1 k2 k3 hs3' hs3
  go_wp2_with fail
  refine Calls.mono (P := Tryd.prog) (give_is w3 b3 o3 n s3 _ _ HR3.out HN3'.out) ?_
  rintro e w4 ⟨rfl, k1, k2, k3⟩
  have hs4 : SetTo w3 b3 o3 (sg n dr) (.returned (.pointer (some ⟨b3, o3, none⟩))) w4 := ⟨rfl, k1, k2, k3⟩
  rw [HS2.out] at hs4
  clear k1 k2 k3
  go_wp2_with fail
  go_ret2
  exact ⟨rfl, w3, _, _, HS3.out, hs4⟩

theorem rshI_c (w : World) (b o bx ox k : Nat) (s0 sx : Int) (K : Nat) (hK : K ≤ 500000) (hk : k ≤ 10000000) (hx2 : sx.natAbs < 2 ^ (32 * K)) (h0 : 0 ≤ sx) (hb : b < w.heap.size)
    (hz : IntIs w b o s0) (hx : IntIs w bx ox sx) :
    Calls Tryd.prog 87 #[.pointer (some ⟨b, o, none⟩), .pointer (some ⟨bx, ox, none⟩), .int .u64 (k : Int)] w (SetTo w b o ((sx.natAbs / 2 ^ k : Nat) : Int)) := by
  obtain ⟨n, v, a, ⟨c1, c2, -, -⟩, hv, h1, h2⟩ := hx
  have ha := sg_abs h1
  have hn : n = false := by
    cases n
    · rfl
    · have := h2 rfl
      unfold sg at h1
      simp at h1
      omega
  subst hn
  rw [← ha] at hx2 ⊢
  have HW : Hid (∀ w1, G w w1 → _) := fun w1 g => right_c w1 v a k K (by omega) (by omega) (hv.G g) hx2
  have HZ : Hid _ := hz
  have HS : Hid (sg false (a / 2 ^ k) = ((a / 2 ^ k : Nat) : Int)) := rfl
  generalize a / 2 ^ k = r at *
  clear hz hx2 hv h1 h2 ha h0 hk
  go_enter Tryd.func87, Tryd.ntmps87
  go_wp2_with fail
  refine Calls.mono (P := Tryd.prog) (HW.out _ (by repeat' (first | exact G.refl _ | assumption | refine G.alloc ?_ _ | refine G.drew ?_ | refine G.drewN ?_ _ | (refine G.trans ?_ (by assumption))))) ?_
  rintro e w2 ⟨v1, rfl, hg2, hn2⟩
  have hG := G.trans (a := w) (by repeat' (first | exact G.refl _ | assumption | refine G.alloc ?_ _ | refine G.drew ?_ | refine G.drewN ?_ _ | (refine G.trans ?_ (by assumption)))) hg2
  go_wp2_with fail
  refine Calls.mono (P := Tryd.prog) (SetTo_of (w0 := w) hb hG (give_is _ b o _ s0 _ _ (IntIs.G HZ.out hb hG) hn2)) ?_
  rintro e w3 ⟨rfl, hs3⟩
  rw [HS.out] at hs3
  go_wp2_with fail
  go_ret
  exact hs3

theorem uint64I_c (w : World) (b o : Nat) (s : Int) (hs : s.natAbs < 2 ^ 64) (hz : IntIs w b o s) :
    Calls Tryd.prog 64 #[.pointer (some ⟨b, o, none⟩)] w fun e w' => e = .returned (.int .u64 (s.natAbs : Int)) ∧ G w w' := by
  obtain ⟨n, v, a, ⟨c1, c2, -, -⟩, ⟨l, hl, hcl, hv⟩, h1, h2⟩ := hz
  have ha := sg_abs h1
  rw [← ha] at hs ⊢
  subst hv
  have hok := hl.1
  have hlen := canon_len hcl (k := 2) hs
  clear ha h1 h2
  rcases Sl.cases hl with ⟨rfl, p, c, rfl⟩ | ⟨hne, b1, o1, c, rfl, hc, hb, hr⟩
  · cases p
    all_goals
      go_enter Tryd.func64, Tryd.ntmps64
      go_wp2_with fail
      go_ret
      exact ⟨rfl, G.refl _⟩
  · have hr0 := hr 0 (List.length_pos_iff.2 hne)
    rw [Nat.add_zero] at hr0
    have h0 := okw_getD hok 0
    by_cases hl1 : l.length = 1
    · have hv : val l = l.getD 0 0 := by
        match l, hl1 with
        | [d], _ => simp [val]
      rw [hv]
      rw [hl1] at c2 hc
      generalize l.getD 0 0 = d0 at *
      have h0i : (d0 : Int) ≤ 4294967295 := by omega
      clear hr hv h0 hl hcl hok hne hlen hs
      go_enter Tryd.func64, Tryd.ntmps64
      go_wp2_with fail
      go_ret
      exact ⟨rfl, G.refl _⟩
    · have hl2 : l.length = 2 := by have := List.length_pos_iff.2 hne; omega
      have hr1 := hr 1 (by omega)
      have h1 := okw_getD hok 1
      have hv : val l = l.getD 0 0 + l.getD 1 0 * 2 ^ 32 := by
        match l, hl2 with
        | [d, e], _ => simp only [val, List.getD_cons_zero, List.getD_cons_succ]; omega
      rw [hv]
      rw [hl2] at c2 hc
      generalize l.getD 0 0 = d0 at *
      generalize l.getD 1 0 = d1 at *
      have h0i : (d0 : Int) ≤ 4294967295 := by omega
      have h1i : (d1 : Int) ≤ 4294967295 := by omega
      have hor : bits .or .u64 (d0 : Int) ((d1 : Int) * 4294967296) = ((d0 + d1 * 2 ^ 32 : Nat) : Int) := by
        have e1 : (d1 : Int) * 4294967296 = ((d1 * 2 ^ 32 : Nat) : Int) := by omega
        rw [e1, u64_or_nat d0 (d1 * 2 ^ 32) (by omega) (by omega), Nat.or_comm, nat_join 32 (d1 * 2 ^ 32) d0 (by omega) h0, Nat.add_comm]
      generalize d0 + d1 * 2 ^ 32 = u at *
      clear hr hv h0 h1 hl hcl hok hne hl1 hl2 hlen hs
      go_enter Tryd.func64, Tryd.ntmps64
      go_wp2_with fail
      go_ret
      exact ⟨rfl, G.refl _⟩

end Go.Proofs.YtkelfdhpekkiaacDoor
namespace Go.Proofs.YtkelfdhpekkiaacDoor
open Go.ChangeShapes Go.WideShapes Go.ChangeAt Go.RowKit
open BN

def RetTz (w : World) (a : Nat) (e : Ending) (w' : World) : Prop := ∃ k : Nat, e = .returned (.int .u64 k) ∧ twosOf a k ∧ G w w'

theorem pow_le_of_mod {a k : Nat} (h0 : a ≠ 0) (h : a % 2 ^ k = 0) : 2 ^ k ≤ a := Nat.le_of_dvd (by omega) (Nat.dvd_of_mod_eq_zero h)

theorem tzI_c (w : World) (b o : Nat) (s : Int) (K : Nat) (hK : K ≤ 1000000) (hs : s.natAbs < 2 ^ (32 * K)) (h0 : s.natAbs ≠ 0) (hb : b < w.heap.size) (hz : IntIs w b o s) :
    Calls Tryd.prog 86 #[.pointer (some ⟨b, o, none⟩)] w (RetTz w s.natAbs) := by
  obtain ⟨n, v, a, ⟨c1, c2, -, -⟩, hv, h1, h2⟩ := hz
  have ha := sg_abs h1
  rw [← ha] at hs h0 ⊢
  have HW : Hid (∀ w1 (i : Nat), i ≤ 40000000 → G w w1 → _) := fun w1 i hi g => bit_c w1 v a i K hK hi (hv.G g) hs
  have hv' := hv
  obtain ⟨l, hl, hcl, hlv⟩ := hv'
  obtain ⟨pa, ca, rfl, -, -⟩ := sl_at hl
  have hln : l.length ≠ 0 := by
    intro h
    have := List.eq_nil_of_length_eq_zero h
    rw [this] at hlv
    exact h0 hlv.symm
  have t0 : ((l.length : Int) == 0) = false := by simp; intro h; exact hln (by rw [h]; rfl)
  have hjn : decide (l.length = 0) = false := by simpa using hln
  generalize l.length = j at *
  have HP : Hid (∀ k, a % 2 ^ k = 0 → k < 32 * K) := fun k h => (Nat.pow_lt_pow_iff_right (by omega : 1 < 2)).1 (Nat.lt_of_le_of_lt (pow_le_of_mod h0 h) hs)
  clear hl hcl hlv hv ha h1 h2 hs h0 hln
  go_enter Tryd.func86, Tryd.ntmps86
  go_wp2_with fail
  go_loopw [3] (fun vn wr => ∃ k : Nat, vn = .int .u64 k ∧ a % 2 ^ k = 0 ∧ G w wr) (fun vn _ => 32 * K + 1 - (intOf vn).toNat)
  case atStart => exact ⟨0, rfl, by simp [Nat.mod_one], G.refl _⟩
  case round =>
    obtain ⟨k, rfl, hk, hG⟩ := hrel
    have hkb := HP.out k hk
    have hki : (k : Int) ≤ 32000000 := by omega
    have HK : Hid _ := hk
    have d2 := hG.cell hb c2
    have HW1 : Hid _ := HW.out wr k (by omega) hG
    have hwk : IntKind.i64.wrap (k : Int) = k := by rw [IntKind.wrap_i64]; omega
    clear hk
    obtain ⟨z, hz, hz1⟩ : ∃ z : Nat, a / 2 ^ k % 2 = z ∧ z ≤ 1 := ⟨_, rfl, by omega⟩
    have HZ : Hid _ := hz
    rw [hz] at HW1
    clear hz
    by_cases hz0 : z = 0
    · subst hz0
      have hk1 : a % 2 ^ (k + 1) = 0 := by rw [Nat.pow_succ, Nat.mod_mul, HK.out, HZ.out, Nat.mul_zero]
      have HK1 : Hid _ := hk1
      clear hk1
      go_wp2_with fail
      refine Calls.mono (P := Tryd.prog) HW1.out ?_
      rintro e w2 ⟨rfl, hg2⟩
      go_wp2_with fail
      go_roundw
      case rel => exact ⟨k + 1, by go_num, HK1.out, G.trans hG hg2⟩
      case measure => simp only [intOf]; omega
    · obtain rfl : z = 1 := by omega
      go_wp2_with fail
      refine Calls.mono (P := Tryd.prog) HW1.out ?_
      rintro e w2 ⟨rfl, hg2⟩
      go_wp2_with fail
      go_ret
      exact ⟨k, rfl, ⟨HK.out, HZ.out⟩, G.trans hG hg2⟩

/-- A new Int, since w0. -/
def NI (w0 w : World) (p : Nat) (s : Int) : Prop := w0.heap.size ≤ p ∧ p < w.heap.size ∧ IntIs w p 0 s
theorem NI.G {w0 w w' : World} {p : Nat} {s : Int} (h : NI w0 w p s) (g : G w w') : NI w0 w' p s := ⟨h.1, Nat.lt_of_lt_of_le h.2.1 g.size, h.2.2.G h.2.1 g⟩
theorem NI.new {w0 w : World} (g : Go.Proofs.YtkelfdhpekkiaacDoor.G w0 w) (t : TypeId) : NI w0 (w.alloc (.cells #[.bool false, .slice none 0 0] t)) w.heap.size 0 := ⟨g.size, by simp, int_new w t⟩
/-- What a method that sets a new Int leaves behind. -/
def Step (w0 w : World) (p : Nat) (s : Int) (e : Ending) (w' : World) : Prop :=
  e = .returned (.pointer (some ⟨p, 0, none⟩)) ∧ G w0 w' ∧ NI w0 w' p s ∧ w.heap.size ≤ w'.heap.size ∧ ∀ p2 s2, p2 ≠ p → NI w0 w p2 s2 → NI w0 w' p2 s2
theorem SetTo.step {w0 w : World} {p : Nat} {s0 s : Int} {e : Ending} {w' : World} (g : G w0 w) (hz : NI w0 w p s0) (h : SetTo w p 0 s e w') : Step w0 w p s e w' :=
  ⟨h.1, h.fresh g hz.1, ⟨hz.1, Nat.lt_of_lt_of_le hz.2.1 h.size, h.is⟩, h.size, fun _ _ hne hx => ⟨hx.1, Nat.lt_of_lt_of_le hx.2.1 h.size, SetTo.keep hz.2.2 h hx.2.2 hx.2.1 (Or.inl hne)⟩⟩
theorem Step.to {w0 w : World} {p : Nat} {s : Int} {e : Ending} {w' : World} (h : Step w0 w p s e w') : e = .returned (.pointer (some ⟨p, 0, none⟩)) := h.1

end Go.Proofs.YtkelfdhpekkiaacDoor
namespace Go.Proofs.YtkelfdhpekkiaacDoor
open Go.RowKit
open BN

/-- N / D, rounded to the nearest whole number, of two as near to the even one. -/
def roundQ (N D : Nat) : Nat := N / D + (if D < 2 * (N % D) ∨ (2 * (N % D) = D ∧ N / D % 2 = 1) then 1 else 0)
/-- A / B in units of 2^p. -/
def upP (A : Nat) (p : Int) : Nat := A * 2 ^ (-p).toNat
def loP (B : Nat) (p : Int) : Nat := B * 2 ^ p.toNat
def nearQ (A B : Nat) (p : Int) : Nat := roundQ (upP A p) (loP B p)
def stopQ (m q : Nat) : Prop := blen q ≤ m ∨ (blen q = m + 1 ∧ q % 2 ^ m = 0)
def startP (A B m : Nat) (low : Int) : Int := if (blen A : Int) - blen B - m < low then low else (blen A : Int) - blen B - m
def NearOut (A B m : Nat) (p : Int) (v : Nat) (P : Int) (x : Bool) : Prop :=
  ((blen (nearQ A B p) ≤ m ∧ v = nearQ A B p ∧ P = p) ∨ (blen (nearQ A B p) = m + 1 ∧ nearQ A B p % 2 ^ m = 0 ∧ v = nearQ A B p / 2 ∧ P = p + 1)) ∧ x = decide (upP A p % loP B p = 0)
def NearAt (A B m : Nat) (p0 p : Int) : Prop := p = p0 ∨ (p = p0 + 1 ∧ ¬ stopQ m (nearQ A B p0))

theorem blen_le_iff {a k : Nat} : blen a ≤ k ↔ a < 2 ^ k := by
  rcases Nat.eq_zero_or_pos a with rfl | h0
  · have : blen 0 = 0 := rfl
    rw [this]; exact ⟨fun _ => Nat.two_pow_pos k, fun _ => Nat.zero_le _⟩
  · obtain ⟨h1, h2, h3⟩ := blen_lo (a := a) (by omega)
    constructor
    · intro h
      exact Nat.lt_of_lt_of_le h3 (Nat.pow_le_pow_right (by omega) h)
    · intro h
      have h4 : 2 ^ (blen a - 1) < 2 ^ k := Nat.lt_of_le_of_lt h2 h
      have := (Nat.pow_lt_pow_iff_right (by omega : 1 < 2)).1 h4
      omega
theorem roundQ_le {N D T : Nat} (h : N < T * D) : roundQ N D ≤ T := by
  unfold roundQ
  have h1 : N / D < T := by
    rcases Nat.eq_zero_or_pos D with rfl | hD
    · simp at h
    · exact (Nat.div_lt_iff_lt_mul hD).2 h
  split <;> omega
theorem stopQ_of_le {m q : Nat} (h : q ≤ 2 ^ m) : stopQ m q := by
  rcases Nat.lt_or_eq_of_le h with h | h
  · exact Or.inl (blen_le_iff.2 h)
  · refine Or.inr ⟨?_, by rw [h, Nat.mod_self]⟩
    rw [h]
    exact blen_eq (Nat.pow_lt_pow_right (by omega) (by omega)) (Or.inr (by simp))
theorem near_bd {A B m : Nat} {low p : Int} (hA : A ≠ 0) (hB : B ≠ 0) (hp : startP A B m low + 1 ≤ p) : upP A p < 2 ^ m * loP B p := by
  obtain ⟨a1, a2, a3⟩ := blen_lo hA
  obtain ⟨b1, b2, b3⟩ := blen_lo hB
  have h1 : (blen A : Int) - blen B - m ≤ startP A B m low := by unfold startP; split <;> omega
  unfold upP loP
  have h2 : A * 2 ^ (-p).toNat < 2 ^ (blen A + (-p).toNat) := by rw [Nat.pow_add]; exact Nat.mul_lt_mul_of_pos_right a3 (Nat.two_pow_pos _)
  have h3 : 2 ^ (m + (blen B - 1 + p.toNat)) ≤ 2 ^ m * (B * 2 ^ p.toNat) := by
    rw [Nat.pow_add, Nat.pow_add]
    exact Nat.mul_le_mul_left _ (Nat.mul_le_mul_right _ b2)
  have h4 : 2 ^ (blen A + (-p).toNat) ≤ 2 ^ (m + (blen B - 1 + p.toNat)) := Nat.pow_le_pow_right (by omega) (by omega)
  omega
/-- The second time at the latest it stops. -/
theorem near_stop {A B m : Nat} {low p0 p : Int} (hA : A ≠ 0) (hB : B ≠ 0) (h0 : p0 = startP A B m low) (hat : NearAt A B m p0 p) (hs : ¬ stopQ m (nearQ A B p)) : p = p0 ∧ NearAt A B m p0 (p + 1) := by
  rcases hat with h | ⟨h, h'⟩
  · exact ⟨h, Or.inr ⟨by omega, by rw [← h]; exact hs⟩⟩
  · exact absurd (stopQ_of_le (roundQ_le (near_bd (low := low) hA hB (by omega)))) hs
theorem upP_lt {A : Nat} {p : Int} {K : Nat} (hA : A < 2 ^ (32 * K)) (hp : -(32 * (K : Int)) ≤ p) : upP A p < 2 ^ (32 * (2 * K)) := by
  unfold upP
  have h : A * 2 ^ (-p).toNat < 2 ^ (32 * K) * 2 ^ (-p).toNat := Nat.mul_lt_mul_of_pos_right hA (Nat.two_pow_pos _)
  rw [← Nat.pow_add] at h
  exact Nat.lt_of_lt_of_le h (Nat.pow_le_pow_right (by omega) (by omega))
theorem loP_lt {B : Nat} {p : Int} {K : Nat} (hB : B < 2 ^ (32 * K)) (hp : p ≤ 32 * (K : Int)) : loP B p < 2 ^ (32 * (2 * K)) := by
  unfold loP
  have h : B * 2 ^ p.toNat < 2 ^ (32 * K) * 2 ^ p.toNat := Nat.mul_lt_mul_of_pos_right hB (Nat.two_pow_pos _)
  rw [← Nat.pow_add] at h
  exact Nat.lt_of_lt_of_le h (Nat.pow_le_pow_right (by omega) (by omega))
theorem loP_pos {B : Nat} {p : Int} (hB : B ≠ 0) : 0 < loP B p := Nat.mul_pos (by omega) (Nat.two_pow_pos _)
theorem cmp_round {N D : Nat} : roundQ N D = N / D + (if 0 < cmpI ((N % D * 2 : Nat) : Int) (D : Int) ∨ (cmpI ((N % D * 2 : Nat) : Int) (D : Int) = 0 ∧ N / D % 2 = 1) then 1 else 0) := by
  unfold roundQ cmpI
  congr 1
  by_cases h1 : N % D * 2 < D
  · have e1 : ((N % D * 2 : Nat) : Int) < (D : Int) := by omega
    simp only [if_pos e1]
    rw [if_neg (by omega), if_neg (by omega)]
  · have e1 : ¬ ((N % D * 2 : Nat) : Int) < (D : Int) := by omega
    simp only [if_neg e1]
    by_cases h2 : N % D * 2 = D
    · have e2 : ((N % D * 2 : Nat) : Int) = (D : Int) := by omega
      simp only [if_pos e2]
      by_cases h3 : N / D % 2 = 1
      · rw [if_pos (by omega), if_pos (by simp [h3])]
      · rw [if_neg (by omega), if_neg (by simp [h3])]
    · have e2 : ¬ ((N % D * 2 : Nat) : Int) = (D : Int) := by omega
      simp only [if_neg e2]
      rw [if_pos (by omega), if_pos (by omega)]

end Go.Proofs.YtkelfdhpekkiaacDoor
namespace Go.Proofs.YtkelfdhpekkiaacDoor
open Go.ChangeShapes Go.WideShapes Go.ChangeAt Go.RowKit
open BN

theorem sg_not {n : Bool} {a : Nat} : sg (!n) a = -sg n a := by unfold sg; cases n <;> simp

theorem negI_c (w : World) (b o bx ox : Nat) (s0 sx : Int) (K : Nat) (hK : K ≤ 1000000) (hx2 : sx.natAbs < 2 ^ (32 * K)) (hb : b < w.heap.size) (hbx : bx < w.heap.size)
    (hz : IntIs w b o s0) (hx : IntIs w bx ox sx) :
    Calls Tryd.prog 55 #[.pointer (some ⟨b, o, none⟩), .pointer (some ⟨bx, ox, none⟩)] w (SetTo w b o (-sx)) := by
  obtain ⟨n, v, a, ⟨c1, c2, -, -⟩, hv, h1, -⟩ := hx
  have ha := sg_abs h1
  have HW : Hid (∀ w1, G w w1 → _) := fun w1 g => twin_c w1 v a K hK (hv.G g) (by omega)
  have HZ : Hid _ := hz
  have HS : Hid (sg (!n) a = -sx) := by show sg (!n) a = -sx; rw [sg_not, h1]
  clear hz hx2 hv h1 ha
  go_enter Tryd.func55, Tryd.ntmps55
  go_wp2_with fail
  refine region_J 11 (G w) (by kernel_rfl) (by first | exact (G.refl _).drew | exact G.drew (by assumption)) ?_
  intro hSh
  refine wpAnyJ_take (i := 0) (v := ?_) rfl (by kernel_rfl) (by kernel_rfl) (by kernel_rfl) (by kernel_rfl) (by kernel_rfl) (by kernel_rfl) (by kernel_rfl) (fun _ _ _ h => h) (Or.inl ⟨by rfl, ?_⟩) (by assumption) ?_
  rotate_left
  · intro wq hwq
    have hq1 := G.cell (p := ⟨bx, ox, none⟩) (v := .bool n) hwq (by first | assumption | (simp; done) | (simp; omega) | omega) (by assumption)
    have hq2 := G.cell (p := ⟨bx, ox + 1, none⟩) (v := v) hwq (by first | assumption | (simp; done) | (simp; omega) | omega) (by assumption)
    first | (go_simp; done) | (go_simp; with_reducible rfl)
  try simp only [Act.put, List.setIfInBounds_toArray, List.set_cons_zero, List.set_cons_succ]
  refine wpAnyJ_take (i := 1) (v := ?_) rfl (by kernel_rfl) (by kernel_rfl) (by kernel_rfl) (by kernel_rfl) (by kernel_rfl) (by kernel_rfl) (by kernel_rfl) (fun _ _ _ h => h) (Or.inl ⟨by rfl, ?_⟩) (by assumption) ?_
  rotate_left
  · intro wq hwq
    have hq3 := G.cell (p := ⟨bx, ox, none⟩) (v := .bool n) hwq (by first | assumption | (simp; done) | (simp; omega) | omega) (by assumption)
    have hq4 := G.cell (p := ⟨bx, ox + 1, none⟩) (v := v) hwq (by first | assumption | (simp; done) | (simp; omega) | omega) (by assumption)
    first | (go_simp; done) | (go_simp; with_reducible rfl)
  try simp only [Act.put, List.setIfInBounds_toArray, List.set_cons_zero, List.set_cons_succ]
  refine wpAnyJ_take (i := 2) (v := ?_) rfl (by kernel_rfl) (by kernel_rfl) (by kernel_rfl) (by kernel_rfl) (by kernel_rfl) (by kernel_rfl) (by kernel_rfl) (fun _ _ _ h => h) (Or.inl ⟨by rfl, ?_⟩) (by assumption) ?_
  rotate_left
  · intro wq hwq
    have hq5 := G.cell (p := ⟨bx, ox, none⟩) (v := .bool n) hwq (by first | assumption | (simp; done) | (simp; omega) | omega) (by assumption)
    have hq6 := G.cell (p := ⟨bx, ox + 1, none⟩) (v := v) hwq (by first | assumption | (simp; done) | (simp; omega) | omega) (by assumption)
    first | (go_simp; done) | (go_simp; with_reducible rfl)
  try simp only [Act.put, List.setIfInBounds_toArray, List.set_cons_zero, List.set_cons_succ]
  refine wpAnyJ_take (i := 3) (v := ?_) rfl (by kernel_rfl) (by kernel_rfl) (by kernel_rfl) (by kernel_rfl) (by kernel_rfl) (by kernel_rfl) (by kernel_rfl) (fun _ _ _ h => h) (Or.inl ⟨by rfl, ?_⟩) (by assumption) ?_
  rotate_left
  · intro wq hwq
    have hq7 := G.cell (p := ⟨bx, ox, none⟩) (v := .bool n) hwq (by first | assumption | (simp; done) | (simp; omega) | omega) (by assumption)
    have hq8 := G.cell (p := ⟨bx, ox + 1, none⟩) (v := v) hwq (by first | assumption | (simp; done) | (simp; omega) | omega) (by assumption)
    first | (go_simp; done) | (go_simp; with_reducible rfl)
  try simp only [Act.put, List.setIfInBounds_toArray, List.set_cons_zero, List.set_cons_succ]
  refine wpAnyJ_take (i := 4) (v := ?_) rfl (by kernel_rfl) (by kernel_rfl) (by kernel_rfl) (by kernel_rfl) (by kernel_rfl) (by kernel_rfl) (by kernel_rfl) (fun _ _ _ h => h) (Or.inl ⟨by rfl, ?_⟩) (by assumption) ?_
  rotate_left
  · intro wq hwq
    have hq9 := G.cell (p := ⟨bx, ox, none⟩) (v := .bool n) hwq (by first | assumption | (simp; done) | (simp; omega) | omega) (by assumption)
    have hq10 := G.cell (p := ⟨bx, ox + 1, none⟩) (v := v) hwq (by first | assumption | (simp; done) | (simp; omega) | omega) (by assumption)
    first | (go_simp; done) | (go_simp; with_reducible rfl)
  try simp only [Act.put, List.setIfInBounds_toArray, List.set_cons_zero, List.set_cons_succ]
  refine wpAnyJ_take (i := 5) (v := ?_) rfl (by kernel_rfl) (by kernel_rfl) (by kernel_rfl) (by kernel_rfl) (by kernel_rfl) (by kernel_rfl) (by kernel_rfl) (fun _ _ _ h => h) (Or.inl ⟨by rfl, ?_⟩) (by assumption) ?_
  rotate_left
  · intro wq hwq
    have hq11 := G.cell (p := ⟨bx, ox, none⟩) (v := .bool n) hwq (by first | assumption | (simp; done) | (simp; omega) | omega) (by assumption)
    have hq12 := G.cell (p := ⟨bx, ox + 1, none⟩) (v := v) hwq (by first | assumption | (simp; done) | (simp; omega) | omega) (by assumption)
    first | (go_simp; done) | (go_simp; with_reducible rfl)
  try simp only [Act.put, List.setIfInBounds_toArray, List.set_cons_zero, List.set_cons_succ]
  refine wpAnyJ_take (i := 6) (v := ?_) rfl (by kernel_rfl) (by kernel_rfl) (by kernel_rfl) (by kernel_rfl) (by kernel_rfl) (by kernel_rfl) (by kernel_rfl) (fun _ _ _ h => h) (Or.inl ⟨by rfl, ?_⟩) (by assumption) ?_
  rotate_left
  · intro wq hwq
    have hq13 := G.cell (p := ⟨bx, ox, none⟩) (v := .bool n) hwq (by first | assumption | (simp; done) | (simp; omega) | omega) (by assumption)
    have hq14 := G.cell (p := ⟨bx, ox + 1, none⟩) (v := v) hwq (by first | assumption | (simp; done) | (simp; omega) | omega) (by assumption)
    first | (go_simp; done) | (go_simp; with_reducible rfl)
  try simp only [Act.put, List.setIfInBounds_toArray, List.set_cons_zero, List.set_cons_succ]
  refine wpAnyJ_take (i := 7) (v := ?_) rfl (by kernel_rfl) (by kernel_rfl) (by kernel_rfl) (by kernel_rfl) (by kernel_rfl) (by kernel_rfl) (by kernel_rfl) (fun _ _ _ h => h) (Or.inl ⟨by rfl, ?_⟩) (by assumption) ?_
  rotate_left
  · intro wq hwq
    have hq15 := G.cell (p := ⟨bx, ox, none⟩) (v := .bool n) hwq (by first | assumption | (simp; done) | (simp; omega) | omega) (by assumption)
    have hq16 := G.cell (p := ⟨bx, ox + 1, none⟩) (v := v) hwq (by first | assumption | (simp; done) | (simp; omega) | omega) (by assumption)
    first | (go_simp; done) | (go_simp; with_reducible rfl)
  try simp only [Act.put, List.setIfInBounds_toArray, List.set_cons_zero, List.set_cons_succ]
  refine wpAnyJ_take (i := 8) (v := ?_) rfl (by kernel_rfl) (by kernel_rfl) (by kernel_rfl) (by kernel_rfl) (by kernel_rfl) (by kernel_rfl) (by kernel_rfl) (fun _ _ _ h => h) (Or.inl ⟨by rfl, ?_⟩) (by assumption) ?_
  rotate_left
  · intro wq hwq
    have hq17 := G.cell (p := ⟨bx, ox, none⟩) (v := .bool n) hwq (by first | assumption | (simp; done) | (simp; omega) | omega) (by assumption)
    have hq18 := G.cell (p := ⟨bx, ox + 1, none⟩) (v := v) hwq (by first | assumption | (simp; done) | (simp; omega) | omega) (by assumption)
    first | (go_simp; done) | (go_simp; with_reducible rfl)
  try simp only [Act.put, List.setIfInBounds_toArray, List.set_cons_zero, List.set_cons_succ]
  refine wpAnyJ_take (i := 9) (v := ?_) rfl (by kernel_rfl) (by kernel_rfl) (by kernel_rfl) (by kernel_rfl) (by kernel_rfl) (by kernel_rfl) (by kernel_rfl) (fun _ _ _ h => h) (Or.inl ⟨by rfl, ?_⟩) (by assumption) ?_
  rotate_left
  · intro wq hwq
    have hq19 := G.cell (p := ⟨bx, ox, none⟩) (v := .bool n) hwq (by first | assumption | (simp; done) | (simp; omega) | omega) (by assumption)
    have hq20 := G.cell (p := ⟨bx, ox + 1, none⟩) (v := v) hwq (by first | assumption | (simp; done) | (simp; omega) | omega) (by assumption)
    first | (go_simp; done) | (go_simp; with_reducible rfl)
  try simp only [Act.put, List.setIfInBounds_toArray, List.set_cons_zero, List.set_cons_succ]
  refine wpAnyJ_next (i := 10) (by kernel_rfl) rfl ?_
  intro K hK
  go_simp
  go_wp2_with (go_at_call 71; refine Calls.mono (P := Tryd.prog) (HW.out _ hSh) ?_; rintro e w2 ⟨v1, rfl, hg2, hn2⟩)
  refine hK.out _ _ (Or.inr (G.trans hSh hg2)) ?_
  clear hK K
  refine wpAnyJ_next (i := 11) (by kernel_rfl) rfl ?_
  intro K hK
  go_simp
  go_wp2_with (go_at_call 48; refine Calls.mono (P := Tryd.prog) (SetTo_of (w0 := w) hb (G.trans hSh hg2) (give_is _ b o _ s0 _ _ (IntIs.G HZ.out hb (G.trans hSh hg2)) hn2)) ?_; rintro e w3 ⟨rfl, hs3⟩)
  refine hK.out _ _ (Or.inl (by decide)) ?_
  clear hK K
  refine wpAnyJ_next (i := 12) (by kernel_rfl) rfl ?_
  intro K hK
  go_simp
  refine hK.out _ _ (Or.inl (by decide)) ?_
  clear hK K
  refine wpAnyJ_done (by kernel_rfl) ?_ _
  rw [HS.out] at hs3
  go_wp2_with fail
  go_ret
  exact hs3

/-- At block b lies a Rat: its two Ints (a lower one of 0 stands for 1). -/
def RatIs (w : World) (b : Nat) (sa sb : Int) : Prop := IntIs w b 0 sa ∧ IntIs w b 2 sb
theorem rat_new (w : World) (t : TypeId) : RatIs (w.alloc (.cells #[.bool false, .slice none 0 0, .bool false, .slice none 0 0] t)) w.heap.size 0 0 := by
  refine ⟨⟨false, .slice none 0 0, 0, ⟨?_, ?_, World.frozen?_alloc_at _ _ _ _ rfl, World.frozen?_alloc_at _ _ _ _ rfl⟩, num_nil _ _ _, rfl, fun h => by cases h⟩,
    ⟨false, .slice none 0 0, 0, ⟨?_, ?_, World.frozen?_alloc_at _ _ _ _ rfl, World.frozen?_alloc_at _ _ _ _ rfl⟩, num_nil _ _ _, rfl, fun h => by cases h⟩⟩
  all_goals rw [World.cell?_alloc_at _ _ _ _ rfl]; rfl
theorem RatIs.G {w w' : World} {b : Nat} {sa sb : Int} (h : RatIs w b sa sb) (hb : b < w.heap.size) (g : G w w') : RatIs w' b sa sb := ⟨h.1.G hb g, h.2.G hb g⟩

theorem signR_c (w : World) (b : Nat) (sa sb : Int) (h : RatIs w b sa sb) :
    Calls Tryd.prog 42 #[.pointer (some ⟨b, 0, none⟩)] w fun e w' => e = .returned (.int .i64 sa.sign) ∧ G w w' := by
  have HS : Hid _ := signI_c w b 0 sa h.1
  generalize sa.sign = s at *
  clear h
  go_enter Tryd.func42, Tryd.ntmps42
  go_wp2_with fail
  refine Calls.mono (P := Tryd.prog) HS.out ?_
  rintro e w2 ⟨rfl, hg2⟩
  go_wp2_with fail
  go_ret
  exact ⟨rfl, hg2⟩

/-- den: where the lower part is laid, it is handed back itself. -/
theorem den_c (w : World) (b : Nat) (sa sb : Int) (hsb : sb ≠ 0) (h : RatIs w b sa sb) :
    Calls Tryd.prog 32 #[.pointer (some ⟨b, 0, none⟩)] w fun e w' => e = .returned (.pointer (some ⟨b, 2, none⟩)) ∧ G w w' := by
  obtain ⟨-, n, v, a, ⟨c1, c2, -, -⟩, ⟨l, hl, hcl, hlv⟩, h1, -⟩ := h
  have ha := sg_abs h1
  obtain ⟨p, c, rfl, -, -⟩ := sl_at hl
  have hl0 : l.length ≠ 0 := by
    intro h0
    rw [List.eq_nil_of_length_eq_zero h0] at hlv
    have : a = 0 := hlv.symm
    omega
  have t0 : ((l.length : Int) == 0) = false := by simp; intro h; exact hl0 (by rw [h]; rfl)
  generalize l.length = j at *
  clear hl hcl hlv h1 ha hsb
  go_enter Tryd.func32, Tryd.ntmps32
  go_wp2_with fail
  go_ret
  exact ⟨rfl, G.refl _⟩

end Go.Proofs.YtkelfdhpekkiaacDoor
namespace Go.Proofs.YtkelfdhpekkiaacDoor
open Go.ChangeShapes Go.WideShapes Go.ChangeAt Go.RowKit
open BN

theorem subI_c (w : World) (b o bx ox b2 oy : Nat) (s0 sx sy : Int) (K : Nat) (hK : K ≤ 1000000) (hx2 : sx.natAbs < 2 ^ (32 * K)) (hy2 : sy.natAbs < 2 ^ (32 * K)) (hb : b < w.heap.size) (hbx : bx < w.heap.size) (hby : b2 < w.heap.size)
    (hz : IntIs w b o s0) (hx : IntIs w bx ox sx) (hy : IntIs w b2 oy sy) :
    Calls Tryd.prog 37 #[.pointer (some ⟨b, o, none⟩), .pointer (some ⟨bx, ox, none⟩), .pointer (some ⟨b2, oy, none⟩)] w (SetTo w b o (sx - sy)) := by
  obtain ⟨n, v, a, ⟨c1, c2, -, -⟩, hv, h1, -⟩ := hx
  obtain ⟨n', v', a', ⟨c3, c4, -, -⟩, hv', h2, -⟩ := hy
  have ha := sg_abs h1
  have ha' := sg_abs h2
  have HW : Hid (∀ w1, G w w1 → _) := fun w1 g => sum_c w1 n (!n') v v' a a' K hK (hv.G g) (hv'.G g) (by omega) (by omega)
  have HZ : Hid _ := hz
  have HS : Hid (sg n a + sg (!n') a' = sx - sy) := by show sg n a + sg (!n') a' = sx - sy; rw [sg_not, h1, h2]; omega
  clear hz hx2 hy2 hv hv' h1 h2 ha ha'
  go_enter Tryd.func37, Tryd.ntmps37
  go_wp2_with fail
  refine region_J 21 (G w) (by kernel_rfl) (by first | exact (G.refl _).drew | exact G.drew (by assumption)) ?_
  intro hSh
  refine wpAnyJ_take (i := 0) (v := ?_) rfl (by kernel_rfl) (by kernel_rfl) (by kernel_rfl) (by kernel_rfl) (by kernel_rfl) (by kernel_rfl) (by kernel_rfl) (fun _ _ _ h => h) (Or.inl ⟨by rfl, ?_⟩) (by assumption) ?_
  rotate_left
  · intro wq hwq
    have hq1 := G.cell (p := ⟨bx, ox, none⟩) (v := .bool n) hwq (by first | assumption | (simp; done) | (simp; omega) | omega) (by assumption)
    have hq2 := G.cell (p := ⟨bx, ox + 1, none⟩) (v := v) hwq (by first | assumption | (simp; done) | (simp; omega) | omega) (by assumption)
    have hq3 := G.cell (p := ⟨b2, oy, none⟩) (v := .bool n') hwq (by first | assumption | (simp; done) | (simp; omega) | omega) (by assumption)
    have hq4 := G.cell (p := ⟨b2, oy + 1, none⟩) (v := v') hwq (by first | assumption | (simp; done) | (simp; omega) | omega) (by assumption)
    first | (go_simp; done) | (go_simp; with_reducible rfl)
  try simp only [Act.put, List.setIfInBounds_toArray, List.set_cons_zero, List.set_cons_succ]
  refine wpAnyJ_take (i := 1) (v := ?_) rfl (by kernel_rfl) (by kernel_rfl) (by kernel_rfl) (by kernel_rfl) (by kernel_rfl) (by kernel_rfl) (by kernel_rfl) (fun _ _ _ h => h) (Or.inl ⟨by rfl, ?_⟩) (by assumption) ?_
  rotate_left
  · intro wq hwq
    have hq5 := G.cell (p := ⟨bx, ox, none⟩) (v := .bool n) hwq (by first | assumption | (simp; done) | (simp; omega) | omega) (by assumption)
    have hq6 := G.cell (p := ⟨bx, ox + 1, none⟩) (v := v) hwq (by first | assumption | (simp; done) | (simp; omega) | omega) (by assumption)
    have hq7 := G.cell (p := ⟨b2, oy, none⟩) (v := .bool n') hwq (by first | assumption | (simp; done) | (simp; omega) | omega) (by assumption)
    have hq8 := G.cell (p := ⟨b2, oy + 1, none⟩) (v := v') hwq (by first | assumption | (simp; done) | (simp; omega) | omega) (by assumption)
    first | (go_simp; done) | (go_simp; with_reducible rfl)
  try simp only [Act.put, List.setIfInBounds_toArray, List.set_cons_zero, List.set_cons_succ]
  refine wpAnyJ_take (i := 2) (v := ?_) rfl (by kernel_rfl) (by kernel_rfl) (by kernel_rfl) (by kernel_rfl) (by kernel_rfl) (by kernel_rfl) (by kernel_rfl) (fun _ _ _ h => h) (Or.inl ⟨by rfl, ?_⟩) (by assumption) ?_
  rotate_left
  · intro wq hwq
    have hq9 := G.cell (p := ⟨bx, ox, none⟩) (v := .bool n) hwq (by first | assumption | (simp; done) | (simp; omega) | omega) (by assumption)
    have hq10 := G.cell (p := ⟨bx, ox + 1, none⟩) (v := v) hwq (by first | assumption | (simp; done) | (simp; omega) | omega) (by assumption)
    have hq11 := G.cell (p := ⟨b2, oy, none⟩) (v := .bool n') hwq (by first | assumption | (simp; done) | (simp; omega) | omega) (by assumption)
    have hq12 := G.cell (p := ⟨b2, oy + 1, none⟩) (v := v') hwq (by first | assumption | (simp; done) | (simp; omega) | omega) (by assumption)
    first | (go_simp; done) | (go_simp; with_reducible rfl)
  try simp only [Act.put, List.setIfInBounds_toArray, List.set_cons_zero, List.set_cons_succ]
  refine wpAnyJ_take (i := 3) (v := ?_) rfl (by kernel_rfl) (by kernel_rfl) (by kernel_rfl) (by kernel_rfl) (by kernel_rfl) (by kernel_rfl) (by kernel_rfl) (fun _ _ _ h => h) (Or.inl ⟨by rfl, ?_⟩) (by assumption) ?_
  rotate_left
  · intro wq hwq
    have hq13 := G.cell (p := ⟨bx, ox, none⟩) (v := .bool n) hwq (by first | assumption | (simp; done) | (simp; omega) | omega) (by assumption)
    have hq14 := G.cell (p := ⟨bx, ox + 1, none⟩) (v := v) hwq (by first | assumption | (simp; done) | (simp; omega) | omega) (by assumption)
    have hq15 := G.cell (p := ⟨b2, oy, none⟩) (v := .bool n') hwq (by first | assumption | (simp; done) | (simp; omega) | omega) (by assumption)
    have hq16 := G.cell (p := ⟨b2, oy + 1, none⟩) (v := v') hwq (by first | assumption | (simp; done) | (simp; omega) | omega) (by assumption)
    first | (go_simp; done) | (go_simp; with_reducible rfl)
  try simp only [Act.put, List.setIfInBounds_toArray, List.set_cons_zero, List.set_cons_succ]
  refine wpAnyJ_take (i := 4) (v := ?_) rfl (by kernel_rfl) (by kernel_rfl) (by kernel_rfl) (by kernel_rfl) (by kernel_rfl) (by kernel_rfl) (by kernel_rfl) (fun _ _ _ h => h) (Or.inl ⟨by rfl, ?_⟩) (by assumption) ?_
  rotate_left
  · intro wq hwq
    have hq17 := G.cell (p := ⟨bx, ox, none⟩) (v := .bool n) hwq (by first | assumption | (simp; done) | (simp; omega) | omega) (by assumption)
    have hq18 := G.cell (p := ⟨bx, ox + 1, none⟩) (v := v) hwq (by first | assumption | (simp; done) | (simp; omega) | omega) (by assumption)
    have hq19 := G.cell (p := ⟨b2, oy, none⟩) (v := .bool n') hwq (by first | assumption | (simp; done) | (simp; omega) | omega) (by assumption)
    have hq20 := G.cell (p := ⟨b2, oy + 1, none⟩) (v := v') hwq (by first | assumption | (simp; done) | (simp; omega) | omega) (by assumption)
    first | (go_simp; done) | (go_simp; with_reducible rfl)
  try simp only [Act.put, List.setIfInBounds_toArray, List.set_cons_zero, List.set_cons_succ]
  refine wpAnyJ_take (i := 5) (v := ?_) rfl (by kernel_rfl) (by kernel_rfl) (by kernel_rfl) (by kernel_rfl) (by kernel_rfl) (by kernel_rfl) (by kernel_rfl) (fun _ _ _ h => h) (Or.inl ⟨by rfl, ?_⟩) (by assumption) ?_
  rotate_left
  · intro wq hwq
    have hq21 := G.cell (p := ⟨bx, ox, none⟩) (v := .bool n) hwq (by first | assumption | (simp; done) | (simp; omega) | omega) (by assumption)
    have hq22 := G.cell (p := ⟨bx, ox + 1, none⟩) (v := v) hwq (by first | assumption | (simp; done) | (simp; omega) | omega) (by assumption)
    have hq23 := G.cell (p := ⟨b2, oy, none⟩) (v := .bool n') hwq (by first | assumption | (simp; done) | (simp; omega) | omega) (by assumption)
    have hq24 := G.cell (p := ⟨b2, oy + 1, none⟩) (v := v') hwq (by first | assumption | (simp; done) | (simp; omega) | omega) (by assumption)
    first | (go_simp; done) | (go_simp; with_reducible rfl)
  try simp only [Act.put, List.setIfInBounds_toArray, List.set_cons_zero, List.set_cons_succ]
  refine wpAnyJ_take (i := 6) (v := ?_) rfl (by kernel_rfl) (by kernel_rfl) (by kernel_rfl) (by kernel_rfl) (by kernel_rfl) (by kernel_rfl) (by kernel_rfl) (fun _ _ _ h => h) (Or.inl ⟨by rfl, ?_⟩) (by assumption) ?_
  rotate_left
  · intro wq hwq
    have hq25 := G.cell (p := ⟨bx, ox, none⟩) (v := .bool n) hwq (by first | assumption | (simp; done) | (simp; omega) | omega) (by assumption)
    have hq26 := G.cell (p := ⟨bx, ox + 1, none⟩) (v := v) hwq (by first | assumption | (simp; done) | (simp; omega) | omega) (by assumption)
    have hq27 := G.cell (p := ⟨b2, oy, none⟩) (v := .bool n') hwq (by first | assumption | (simp; done) | (simp; omega) | omega) (by assumption)
    have hq28 := G.cell (p := ⟨b2, oy + 1, none⟩) (v := v') hwq (by first | assumption | (simp; done) | (simp; omega) | omega) (by assumption)
    first | (go_simp; done) | (go_simp; with_reducible rfl)
  try simp only [Act.put, List.setIfInBounds_toArray, List.set_cons_zero, List.set_cons_succ]
  refine wpAnyJ_take (i := 7) (v := ?_) rfl (by kernel_rfl) (by kernel_rfl) (by kernel_rfl) (by kernel_rfl) (by kernel_rfl) (by kernel_rfl) (by kernel_rfl) (fun _ _ _ h => h) (Or.inl ⟨by rfl, ?_⟩) (by assumption) ?_
  rotate_left
  · intro wq hwq
    have hq29 := G.cell (p := ⟨bx, ox, none⟩) (v := .bool n) hwq (by first | assumption | (simp; done) | (simp; omega) | omega) (by assumption)
    have hq30 := G.cell (p := ⟨bx, ox + 1, none⟩) (v := v) hwq (by first | assumption | (simp; done) | (simp; omega) | omega) (by assumption)
    have hq31 := G.cell (p := ⟨b2, oy, none⟩) (v := .bool n') hwq (by first | assumption | (simp; done) | (simp; omega) | omega) (by assumption)
    have hq32 := G.cell (p := ⟨b2, oy + 1, none⟩) (v := v') hwq (by first | assumption | (simp; done) | (simp; omega) | omega) (by assumption)
    first | (go_simp; done) | (go_simp; with_reducible rfl)
  try simp only [Act.put, List.setIfInBounds_toArray, List.set_cons_zero, List.set_cons_succ]
  refine wpAnyJ_take (i := 8) (v := ?_) rfl (by kernel_rfl) (by kernel_rfl) (by kernel_rfl) (by kernel_rfl) (by kernel_rfl) (by kernel_rfl) (by kernel_rfl) (fun _ _ _ h => h) (Or.inl ⟨by rfl, ?_⟩) (by assumption) ?_
  rotate_left
  · intro wq hwq
    have hq33 := G.cell (p := ⟨bx, ox, none⟩) (v := .bool n) hwq (by first | assumption | (simp; done) | (simp; omega) | omega) (by assumption)
    have hq34 := G.cell (p := ⟨bx, ox + 1, none⟩) (v := v) hwq (by first | assumption | (simp; done) | (simp; omega) | omega) (by assumption)
    have hq35 := G.cell (p := ⟨b2, oy, none⟩) (v := .bool n') hwq (by first | assumption | (simp; done) | (simp; omega) | omega) (by assumption)
    have hq36 := G.cell (p := ⟨b2, oy + 1, none⟩) (v := v') hwq (by first | assumption | (simp; done) | (simp; omega) | omega) (by assumption)
    first | (go_simp; done) | (go_simp; with_reducible rfl)
  try simp only [Act.put, List.setIfInBounds_toArray, List.set_cons_zero, List.set_cons_succ]
  refine wpAnyJ_take (i := 9) (v := ?_) rfl (by kernel_rfl) (by kernel_rfl) (by kernel_rfl) (by kernel_rfl) (by kernel_rfl) (by kernel_rfl) (by kernel_rfl) (fun _ _ _ h => h) (Or.inl ⟨by rfl, ?_⟩) (by assumption) ?_
  rotate_left
  · intro wq hwq
    have hq37 := G.cell (p := ⟨bx, ox, none⟩) (v := .bool n) hwq (by first | assumption | (simp; done) | (simp; omega) | omega) (by assumption)
    have hq38 := G.cell (p := ⟨bx, ox + 1, none⟩) (v := v) hwq (by first | assumption | (simp; done) | (simp; omega) | omega) (by assumption)
    have hq39 := G.cell (p := ⟨b2, oy, none⟩) (v := .bool n') hwq (by first | assumption | (simp; done) | (simp; omega) | omega) (by assumption)
    have hq40 := G.cell (p := ⟨b2, oy + 1, none⟩) (v := v') hwq (by first | assumption | (simp; done) | (simp; omega) | omega) (by assumption)
    first | (go_simp; done) | (go_simp; with_reducible rfl)
  try simp only [Act.put, List.setIfInBounds_toArray, List.set_cons_zero, List.set_cons_succ]
  refine wpAnyJ_take (i := 10) (v := ?_) rfl (by kernel_rfl) (by kernel_rfl) (by kernel_rfl) (by kernel_rfl) (by kernel_rfl) (by kernel_rfl) (by kernel_rfl) (fun _ _ _ h => h) (Or.inl ⟨by rfl, ?_⟩) (by assumption) ?_
  rotate_left
  · intro wq hwq
    have hq41 := G.cell (p := ⟨bx, ox, none⟩) (v := .bool n) hwq (by first | assumption | (simp; done) | (simp; omega) | omega) (by assumption)
    have hq42 := G.cell (p := ⟨bx, ox + 1, none⟩) (v := v) hwq (by first | assumption | (simp; done) | (simp; omega) | omega) (by assumption)
    have hq43 := G.cell (p := ⟨b2, oy, none⟩) (v := .bool n') hwq (by first | assumption | (simp; done) | (simp; omega) | omega) (by assumption)
    have hq44 := G.cell (p := ⟨b2, oy + 1, none⟩) (v := v') hwq (by first | assumption | (simp; done) | (simp; omega) | omega) (by assumption)
    first | (go_simp; done) | (go_simp; with_reducible rfl)
  try simp only [Act.put, List.setIfInBounds_toArray, List.set_cons_zero, List.set_cons_succ]
  refine wpAnyJ_take (i := 11) (v := ?_) rfl (by kernel_rfl) (by kernel_rfl) (by kernel_rfl) (by kernel_rfl) (by kernel_rfl) (by kernel_rfl) (by kernel_rfl) (fun _ _ _ h => h) (Or.inl ⟨by rfl, ?_⟩) (by assumption) ?_
  rotate_left
  · intro wq hwq
    have hq45 := G.cell (p := ⟨bx, ox, none⟩) (v := .bool n) hwq (by first | assumption | (simp; done) | (simp; omega) | omega) (by assumption)
    have hq46 := G.cell (p := ⟨bx, ox + 1, none⟩) (v := v) hwq (by first | assumption | (simp; done) | (simp; omega) | omega) (by assumption)
    have hq47 := G.cell (p := ⟨b2, oy, none⟩) (v := .bool n') hwq (by first | assumption | (simp; done) | (simp; omega) | omega) (by assumption)
    have hq48 := G.cell (p := ⟨b2, oy + 1, none⟩) (v := v') hwq (by first | assumption | (simp; done) | (simp; omega) | omega) (by assumption)
    first | (go_simp; done) | (go_simp; with_reducible rfl)
  try simp only [Act.put, List.setIfInBounds_toArray, List.set_cons_zero, List.set_cons_succ]
  refine wpAnyJ_take (i := 12) (v := ?_) rfl (by kernel_rfl) (by kernel_rfl) (by kernel_rfl) (by kernel_rfl) (by kernel_rfl) (by kernel_rfl) (by kernel_rfl) (fun _ _ _ h => h) (Or.inl ⟨by rfl, ?_⟩) (by assumption) ?_
  rotate_left
  · intro wq hwq
    have hq49 := G.cell (p := ⟨bx, ox, none⟩) (v := .bool n) hwq (by first | assumption | (simp; done) | (simp; omega) | omega) (by assumption)
    have hq50 := G.cell (p := ⟨bx, ox + 1, none⟩) (v := v) hwq (by first | assumption | (simp; done) | (simp; omega) | omega) (by assumption)
    have hq51 := G.cell (p := ⟨b2, oy, none⟩) (v := .bool n') hwq (by first | assumption | (simp; done) | (simp; omega) | omega) (by assumption)
    have hq52 := G.cell (p := ⟨b2, oy + 1, none⟩) (v := v') hwq (by first | assumption | (simp; done) | (simp; omega) | omega) (by assumption)
    first | (go_simp; done) | (go_simp; with_reducible rfl)
  try simp only [Act.put, List.setIfInBounds_toArray, List.set_cons_zero, List.set_cons_succ]
  refine wpAnyJ_take (i := 13) (v := ?_) rfl (by kernel_rfl) (by kernel_rfl) (by kernel_rfl) (by kernel_rfl) (by kernel_rfl) (by kernel_rfl) (by kernel_rfl) (fun _ _ _ h => h) (Or.inl ⟨by rfl, ?_⟩) (by assumption) ?_
  rotate_left
  · intro wq hwq
    have hq53 := G.cell (p := ⟨bx, ox, none⟩) (v := .bool n) hwq (by first | assumption | (simp; done) | (simp; omega) | omega) (by assumption)
    have hq54 := G.cell (p := ⟨bx, ox + 1, none⟩) (v := v) hwq (by first | assumption | (simp; done) | (simp; omega) | omega) (by assumption)
    have hq55 := G.cell (p := ⟨b2, oy, none⟩) (v := .bool n') hwq (by first | assumption | (simp; done) | (simp; omega) | omega) (by assumption)
    have hq56 := G.cell (p := ⟨b2, oy + 1, none⟩) (v := v') hwq (by first | assumption | (simp; done) | (simp; omega) | omega) (by assumption)
    first | (go_simp; done) | (go_simp; with_reducible rfl)
  try simp only [Act.put, List.setIfInBounds_toArray, List.set_cons_zero, List.set_cons_succ]
  refine wpAnyJ_take (i := 14) (v := ?_) rfl (by kernel_rfl) (by kernel_rfl) (by kernel_rfl) (by kernel_rfl) (by kernel_rfl) (by kernel_rfl) (by kernel_rfl) (fun _ _ _ h => h) (Or.inl ⟨by rfl, ?_⟩) (by assumption) ?_
  rotate_left
  · intro wq hwq
    have hq57 := G.cell (p := ⟨bx, ox, none⟩) (v := .bool n) hwq (by first | assumption | (simp; done) | (simp; omega) | omega) (by assumption)
    have hq58 := G.cell (p := ⟨bx, ox + 1, none⟩) (v := v) hwq (by first | assumption | (simp; done) | (simp; omega) | omega) (by assumption)
    have hq59 := G.cell (p := ⟨b2, oy, none⟩) (v := .bool n') hwq (by first | assumption | (simp; done) | (simp; omega) | omega) (by assumption)
    have hq60 := G.cell (p := ⟨b2, oy + 1, none⟩) (v := v') hwq (by first | assumption | (simp; done) | (simp; omega) | omega) (by assumption)
    first | (go_simp; done) | (go_simp; with_reducible rfl)
  try simp only [Act.put, List.setIfInBounds_toArray, List.set_cons_zero, List.set_cons_succ]
  refine wpAnyJ_take (i := 15) (v := ?_) rfl (by kernel_rfl) (by kernel_rfl) (by kernel_rfl) (by kernel_rfl) (by kernel_rfl) (by kernel_rfl) (by kernel_rfl) (fun _ _ _ h => h) (Or.inl ⟨by rfl, ?_⟩) (by assumption) ?_
  rotate_left
  · intro wq hwq
    have hq61 := G.cell (p := ⟨bx, ox, none⟩) (v := .bool n) hwq (by first | assumption | (simp; done) | (simp; omega) | omega) (by assumption)
    have hq62 := G.cell (p := ⟨bx, ox + 1, none⟩) (v := v) hwq (by first | assumption | (simp; done) | (simp; omega) | omega) (by assumption)
    have hq63 := G.cell (p := ⟨b2, oy, none⟩) (v := .bool n') hwq (by first | assumption | (simp; done) | (simp; omega) | omega) (by assumption)
    have hq64 := G.cell (p := ⟨b2, oy + 1, none⟩) (v := v') hwq (by first | assumption | (simp; done) | (simp; omega) | omega) (by assumption)
    first | (go_simp; done) | (go_simp; with_reducible rfl)
  try simp only [Act.put, List.setIfInBounds_toArray, List.set_cons_zero, List.set_cons_succ]
  refine wpAnyJ_take (i := 16) (v := ?_) rfl (by kernel_rfl) (by kernel_rfl) (by kernel_rfl) (by kernel_rfl) (by kernel_rfl) (by kernel_rfl) (by kernel_rfl) (fun _ _ _ h => h) (Or.inl ⟨by rfl, ?_⟩) (by assumption) ?_
  rotate_left
  · intro wq hwq
    have hq65 := G.cell (p := ⟨bx, ox, none⟩) (v := .bool n) hwq (by first | assumption | (simp; done) | (simp; omega) | omega) (by assumption)
    have hq66 := G.cell (p := ⟨bx, ox + 1, none⟩) (v := v) hwq (by first | assumption | (simp; done) | (simp; omega) | omega) (by assumption)
    have hq67 := G.cell (p := ⟨b2, oy, none⟩) (v := .bool n') hwq (by first | assumption | (simp; done) | (simp; omega) | omega) (by assumption)
    have hq68 := G.cell (p := ⟨b2, oy + 1, none⟩) (v := v') hwq (by first | assumption | (simp; done) | (simp; omega) | omega) (by assumption)
    first | (go_simp; done) | (go_simp; with_reducible rfl)
  try simp only [Act.put, List.setIfInBounds_toArray, List.set_cons_zero, List.set_cons_succ]
  refine wpAnyJ_take (i := 17) (v := ?_) rfl (by kernel_rfl) (by kernel_rfl) (by kernel_rfl) (by kernel_rfl) (by kernel_rfl) (by kernel_rfl) (by kernel_rfl) (fun _ _ _ h => h) (Or.inl ⟨by rfl, ?_⟩) (by assumption) ?_
  rotate_left
  · intro wq hwq
    have hq69 := G.cell (p := ⟨bx, ox, none⟩) (v := .bool n) hwq (by first | assumption | (simp; done) | (simp; omega) | omega) (by assumption)
    have hq70 := G.cell (p := ⟨bx, ox + 1, none⟩) (v := v) hwq (by first | assumption | (simp; done) | (simp; omega) | omega) (by assumption)
    have hq71 := G.cell (p := ⟨b2, oy, none⟩) (v := .bool n') hwq (by first | assumption | (simp; done) | (simp; omega) | omega) (by assumption)
    have hq72 := G.cell (p := ⟨b2, oy + 1, none⟩) (v := v') hwq (by first | assumption | (simp; done) | (simp; omega) | omega) (by assumption)
    first | (go_simp; done) | (go_simp; with_reducible rfl)
  try simp only [Act.put, List.setIfInBounds_toArray, List.set_cons_zero, List.set_cons_succ]
  refine wpAnyJ_next (i := 18) (by kernel_rfl) rfl ?_
  intro K hK
  go_simp
  go_wp2_with (go_at_call 49; refine Calls.mono (P := Tryd.prog) (HW.out _ hSh) ?_; rintro e w2 ⟨rn, v1, ra, rfl, hg2, hn2, hs2⟩)
  refine hK.out _ _ (Or.inr (G.trans hSh hg2)) ?_
  clear hK K
  refine wpAnyJ_two (i := 19) (j := 20) (by kernel_rfl) rfl rfl ?_ ?_
  · intro K hK
    go_simp
    refine hK.out _ _ (Or.inr (G.trans hSh hg2)) ?_
    clear hK K
    refine wpAnyJ_next (i := 20) (by kernel_rfl) rfl ?_
    intro K hK
    go_simp
    refine hK.out _ _ (Or.inr (G.trans hSh hg2)) ?_
    clear hK K
    refine wpAnyJ_next (i := 21) (by kernel_rfl) rfl ?_
    intro K hK
    go_simp
    go_wp2_with (go_at_call 48; refine Calls.mono (P := Tryd.prog) (SetTo_of (w0 := w) hb (G.trans hSh hg2) (give_is _ b o _ s0 _ _ (IntIs.G HZ.out hb (G.trans hSh hg2)) hn2)) ?_; rintro e w3 ⟨rfl, hs3⟩)
    refine hK.out _ _ (Or.inl (by decide)) ?_
    clear hK K
    refine wpAnyJ_next (i := 22) (by kernel_rfl) rfl ?_
    intro K hK
    go_simp
    refine hK.out _ _ (Or.inl (by decide)) ?_
    clear hK K
    refine wpAnyJ_done (by kernel_rfl) ?_ _
    rw [hs2, HS.out] at hs3
    go_wp2_with fail
    go_ret
    exact hs3
  · intro K hK
    go_simp
    refine hK.out _ _ (Or.inr (G.trans hSh hg2)) ?_
    clear hK K
    refine wpAnyJ_next (i := 19) (by kernel_rfl) rfl ?_
    intro K hK
    go_simp
    refine hK.out _ _ (Or.inr (G.trans hSh hg2)) ?_
    clear hK K
    refine wpAnyJ_next (i := 21) (by kernel_rfl) rfl ?_
    intro K hK
    go_simp
    go_wp2_with (go_at_call 48; refine Calls.mono (P := Tryd.prog) (SetTo_of (w0 := w) hb (G.trans hSh hg2) (give_is _ b o _ s0 _ _ (IntIs.G HZ.out hb (G.trans hSh hg2)) hn2)) ?_; rintro e w3 ⟨rfl, hs3⟩)
    refine hK.out _ _ (Or.inl (by decide)) ?_
    clear hK K
    refine wpAnyJ_next (i := 22) (by kernel_rfl) rfl ?_
    intro K hK
    go_simp
    refine hK.out _ _ (Or.inl (by decide)) ?_
    clear hK K
    refine wpAnyJ_done (by kernel_rfl) ?_ _
    rw [hs2, HS.out] at hs3
    go_wp2_with fail
    go_ret
    exact hs3

end Go.Proofs.YtkelfdhpekkiaacDoor
namespace Go.Proofs.YtkelfdhpekkiaacDoor
open Go.ChangeShapes Go.WideShapes Go.ChangeAt Go.RowKit
open BN

theorem cmpI_eq {a b : Int} : cmpI a b = (a - b).sign := by
  unfold cmpI
  split
  · rw [Int.sign_eq_neg_one_of_neg (by omega)]
  · split
    · rw [show a - b = 0 from by omega]; rfl
    · rw [Int.sign_eq_one_of_pos (by omega)]
theorem cmpI_mul {a b : Int} {k : Nat} (hk : 0 < k) : cmpI (a * (k : Int)) (b * (k : Int)) = cmpI a b := by
  rw [cmpI_eq, cmpI_eq, ← Int.sub_mul, Int.sign_mul, Int.sign_eq_one_of_pos (show (0 : Int) < k by omega), Int.mul_one]

set_option maxRecDepth 10000 in
set_option maxHeartbeats 8000000 in
theorem cmpR_c (w : World) (bx b2 : Nat) (xa ya : Int) (xb yb : Nat) (KB : Nat) (hK : KB ≤ 100000) (hx2 : xa.natAbs < 2 ^ (32 * KB)) (hy2 : ya.natAbs < 2 ^ (32 * KB)) (hxb2 : xb < 2 ^ (32 * KB)) (hyb2 : yb < 2 ^ (32 * KB)) (hxb : 0 < xb) (hyb : 0 < yb)
    (hbx : bx < w.heap.size) (hby : b2 < w.heap.size) (hx : RatIs w bx xa xb) (hy : RatIs w b2 ya yb) :
    Calls Tryd.prog 47 #[.pointer (some ⟨bx, 0, none⟩), .pointer (some ⟨b2, 0, none⟩)] w fun e w' => e = .returned (.int .i64 (cmpI (xa * (yb : Int)) (ya * (xb : Int)))) ∧ G w w' := by
  have HB01 : Hid (xa.natAbs < 2 ^ (32 * KB)) := hx2
  have HB02 : Hid (ya.natAbs < 2 ^ (32 * KB)) := hy2
  have HB21 : Hid ((xb : Int).natAbs < 2 ^ (32 * KB)) := by show (xb : Int).natAbs < 2 ^ (32 * KB); rw [Int.natAbs_natCast]; exact hxb2
  have HB22 : Hid ((yb : Int).natAbs < 2 ^ (32 * KB)) := by show (yb : Int).natAbs < 2 ^ (32 * KB); rw [Int.natAbs_natCast]; exact hyb2
  have HX0 : Hid (IntIs w bx 0 xa) := hx.1
  have HY0 : Hid (IntIs w b2 0 ya) := hy.1
  have HX2 : Hid (IntIs w bx 2 xb) := hx.2
  have HY2 : Hid (IntIs w b2 2 yb) := hy.2
  have HXR : Hid (RatIs w bx xa xb) := hx
  have HYR : Hid (RatIs w b2 ya yb) := hy
  have hxb0 : (xb : Int) ≠ 0 := by omega
  have hyb0 : (yb : Int) ≠ 0 := by omega
  have h2k : 32 * (2 * KB) = 32 * KB + 32 * KB := by omega
  have HN1 : Hid ((xa * (yb : Int)).natAbs < 2 ^ (32 * (2 * KB))) := by
    show (xa * (yb : Int)).natAbs < 2 ^ (32 * (2 * KB))
    rw [Int.natAbs_mul, Int.natAbs_natCast, h2k, Nat.pow_add]
    exact Nat.mul_lt_mul'' hx2 hyb2
  have HN2 : Hid ((ya * (xb : Int)).natAbs < 2 ^ (32 * (2 * KB))) := by
    show (ya * (xb : Int)).natAbs < 2 ^ (32 * (2 * KB))
    rw [Int.natAbs_mul, Int.natAbs_natCast, h2k, Nat.pow_add]
    exact Nat.mul_lt_mul'' hy2 hxb2
  have HCD : Hid (∀ w1, G w w1 → _) := fun w1 g => cmpI_c w1 bx 2 b2 2 (xb : Int) (yb : Int) KB (by omega) HB21.out HB22.out (G.lt g hbx) (G.lt g hby) (IntIs.G HX2.out hbx g) (IntIs.G HY2.out hby g)
  by_cases he : xb = yb
  · subst he
    have h1 : cmpI (xb : Int) (xb : Int) = 0 := by unfold cmpI; rw [if_neg (by omega), if_pos rfl]
    rw [h1] at HCD
    rw [cmpI_mul hxb]
    have HCA : Hid (∀ w1, G w w1 → _) := fun w1 g => cmpI_c w1 bx 0 b2 0 xa ya KB (by omega) HB01.out HB02.out (G.lt g hbx) (G.lt g hby) (IntIs.G HX0.out hbx g) (IntIs.G HY0.out hby g)
    generalize cmpI xa ya = cv at *
    clear hx hy hx2 hy2 hxb2 hyb2 hxb hyb h1 HN1 HN2 h2k
    go_enter Tryd.func47, Tryd.ntmps47
    go_wp2_with fail
    refine Calls.mono (P := Tryd.prog) (den_c w bx xa xb hxb0 HXR.out) ?_
    rintro e w1 ⟨rfl, hg1⟩
    go_wp2_with fail
    refine Calls.mono (P := Tryd.prog) (den_c w1 b2 ya xb hyb0 (HYR.out.G hby hg1)) ?_
    rintro e w2 ⟨rfl, hg2⟩
    have hG2 := G.trans hg1 hg2
    clear hg1 hg2
    go_wp2_with fail
    refine Calls.mono (P := Tryd.prog) (HCD.out w2 hG2) ?_
    rintro e w3 ⟨rfl, hg3⟩
    have hG3 := G.trans hG2 hg3
    clear hg3 hG2
    go_wp2_with fail
    refine region_J 6 (G w3) (by kernel_rfl) (by first | exact (G.refl _).drew | exact G.drew (by assumption)) ?_
    intro hSh
    refine wpAnyJ_take (i := 0) (v := ?_) rfl (by kernel_rfl) (by kernel_rfl) (by kernel_rfl) (by kernel_rfl) (by kernel_rfl) (by kernel_rfl) (by kernel_rfl) (fun _ _ _ h => h) (Or.inl ⟨by rfl, ?_⟩) (by assumption) ?_
    rotate_left
    · intro wq hwq
      first | (go_simp; done) | (go_simp; with_reducible rfl)
    try simp only [Act.put, List.setIfInBounds_toArray, List.set_cons_zero, List.set_cons_succ]
    refine wpAnyJ_take (i := 1) (v := ?_) rfl (by kernel_rfl) (by kernel_rfl) (by kernel_rfl) (by kernel_rfl) (by kernel_rfl) (by kernel_rfl) (by kernel_rfl) (fun _ _ _ h => h) (Or.inl ⟨by rfl, ?_⟩) (by assumption) ?_
    rotate_left
    · intro wq hwq
      first | (go_simp; done) | (go_simp; with_reducible rfl)
    try simp only [Act.put, List.setIfInBounds_toArray, List.set_cons_zero, List.set_cons_succ]
    refine wpAnyJ_take (i := 2) (v := ?_) rfl (by kernel_rfl) (by kernel_rfl) (by kernel_rfl) (by kernel_rfl) (by kernel_rfl) (by kernel_rfl) (by kernel_rfl) (fun _ _ _ h => h) (Or.inl ⟨by rfl, ?_⟩) (by assumption) ?_
    rotate_left
    · intro wq hwq
      first | (go_simp; done) | (go_simp; with_reducible rfl)
    try simp only [Act.put, List.setIfInBounds_toArray, List.set_cons_zero, List.set_cons_succ]
    refine wpAnyJ_take (i := 3) (v := ?_) rfl (by kernel_rfl) (by kernel_rfl) (by kernel_rfl) (by kernel_rfl) (by kernel_rfl) (by kernel_rfl) (by kernel_rfl) (fun _ _ _ h => h) (Or.inl ⟨by rfl, ?_⟩) (by assumption) ?_
    rotate_left
    · intro wq hwq
      first | (go_simp; done) | (go_simp; with_reducible rfl)
    try simp only [Act.put, List.setIfInBounds_toArray, List.set_cons_zero, List.set_cons_succ]
    refine wpAnyJ_take (i := 4) (v := ?_) rfl (by kernel_rfl) (by kernel_rfl) (by kernel_rfl) (by kernel_rfl) (by kernel_rfl) (by kernel_rfl) (by kernel_rfl) (fun _ _ _ h => h) (Or.inl ⟨by rfl, ?_⟩) (by assumption) ?_
    rotate_left
    · intro wq hwq
      first | (go_simp; done) | (go_simp; with_reducible rfl)
    try simp only [Act.put, List.setIfInBounds_toArray, List.set_cons_zero, List.set_cons_succ]
    refine wpAnyJ_take (i := 5) (v := ?_) rfl (by kernel_rfl) (by kernel_rfl) (by kernel_rfl) (by kernel_rfl) (by kernel_rfl) (by kernel_rfl) (by kernel_rfl) (fun _ _ _ h => h) (Or.inl ⟨by rfl, ?_⟩) (by assumption) ?_
    rotate_left
    · intro wq hwq
      first | (go_simp; done) | (go_simp; with_reducible rfl)
    try simp only [Act.put, List.setIfInBounds_toArray, List.set_cons_zero, List.set_cons_succ]
    show wpAnyJ _ _ _ _ _ _ _ _ _ w3.drew
    generalize w3.drew = w3d at *
    have hG3d := G.trans hG3 hSh
    refine wpAnyJ_next (i := 6) (by kernel_rfl) rfl ?_
    intro K hK
    go_simp
    go_wp2_with (go_at_call 65; refine Calls.mono (P := Tryd.prog) (HCA.out w3d hG3d) ?_; rintro e w4 ⟨rfl, hg4⟩)
    refine hK.out _ _ (Or.inl (by decide)) ?_
    have hG4 := G.trans hG3d hg4
    clear hK K
    refine wpAnyJ_next (i := 7) (by kernel_rfl) rfl ?_
    intro K hK
    go_simp
    refine hK.out _ _ (Or.inl (by decide)) ?_
    clear hK K
    refine wpAnyJ_done (by kernel_rfl) ?_ _
    go_wp2_with fail
    go_ret
    exact ⟨rfl, hG4⟩
  · have h1 : (cmpI (xb : Int) (yb : Int) == 0) = false := by
      unfold cmpI
      by_cases h : (xb : Int) < yb
      · rw [if_pos h]; rfl
      · rw [if_neg h, if_neg (by omega)]; rfl
    have HT1 : Hid _ := h1
    generalize cmpI (xb : Int) (yb : Int) = cd at *
    clear hx hy hx2 hy2 hxb2 hyb2 hxb hyb h1 he h2k
    have t1 := HT1.out
    go_enter Tryd.func47, Tryd.ntmps47
    go_wp2_with fail
    refine Calls.mono (P := Tryd.prog) (den_c w bx xa xb hxb0 HXR.out) ?_
    rintro e w1 ⟨rfl, hg1⟩
    go_wp2_with fail
    refine Calls.mono (P := Tryd.prog) (den_c w1 b2 ya yb hyb0 (HYR.out.G hby hg1)) ?_
    rintro e w2 ⟨rfl, hg2⟩
    have hG2 := G.trans hg1 hg2
    clear hg1 hg2
    go_wp2_with fail
    refine Calls.mono (P := Tryd.prog) (HCD.out w2 hG2) ?_
    rintro e w3 ⟨rfl, hg3⟩
    have hG3 := G.trans hG2 hg3
    clear hg3 hG2 HCD
    go_wp2_with fail
    clear t1 HT1
    apply share
    · intro LX
      refine region_J 14 (G w3) (by kernel_rfl) (by first | exact (G.refl _).drew | exact G.drew (by assumption)) ?_
      intro hSh
      refine wpAnyJ_take (i := 1) (v := ?_) rfl (by kernel_rfl) (by kernel_rfl) (by kernel_rfl) (by kernel_rfl) (by kernel_rfl) (by kernel_rfl) (by kernel_rfl) (fun _ _ _ h => h) (Or.inl ⟨by rfl, ?_⟩) (by assumption) ?_
      rotate_left
      · intro wq hwq
        first | (go_simp; done) | (go_simp; with_reducible rfl)
      try simp only [Act.put, List.setIfInBounds_toArray, List.set_cons_zero, List.set_cons_succ]
      refine wpAnyJ_take (i := 2) (v := ?_) rfl (by kernel_rfl) (by kernel_rfl) (by kernel_rfl) (by kernel_rfl) (by kernel_rfl) (by kernel_rfl) (by kernel_rfl) (fun _ _ _ h => h) (Or.inl ⟨by rfl, ?_⟩) (by assumption) ?_
      rotate_left
      · intro wq hwq
        first | (go_simp; done) | (go_simp; with_reducible rfl)
      try simp only [Act.put, List.setIfInBounds_toArray, List.set_cons_zero, List.set_cons_succ]
      refine wpAnyJ_take (i := 3) (v := ?_) rfl (by kernel_rfl) (by kernel_rfl) (by kernel_rfl) (by kernel_rfl) (by kernel_rfl) (by kernel_rfl) (by kernel_rfl) (fun _ _ _ h => h) (Or.inl ⟨by rfl, ?_⟩) (by assumption) ?_
      rotate_left
      · intro wq hwq
        first | (go_simp; done) | (go_simp; with_reducible rfl)
      try simp only [Act.put, List.setIfInBounds_toArray, List.set_cons_zero, List.set_cons_succ]
      refine wpAnyJ_take (i := 4) (v := ?_) rfl (by kernel_rfl) (by kernel_rfl) (by kernel_rfl) (by kernel_rfl) (by kernel_rfl) (by kernel_rfl) (by kernel_rfl) (fun _ _ _ h => h) (Or.inl ⟨by rfl, ?_⟩) (by assumption) ?_
      rotate_left
      · intro wq hwq
        first | (go_simp; done) | (go_simp; with_reducible rfl)
      try simp only [Act.put, List.setIfInBounds_toArray, List.set_cons_zero, List.set_cons_succ]
      refine wpAnyJ_take (i := 8) (v := ?_) rfl (by kernel_rfl) (by kernel_rfl) (by kernel_rfl) (by kernel_rfl) (by kernel_rfl) (by kernel_rfl) (by kernel_rfl) (fun _ _ _ h => h) (Or.inl ⟨by rfl, ?_⟩) (by assumption) ?_
      rotate_left
      · intro wq hwq
        first | (go_simp; done) | (go_simp; with_reducible rfl)
      try simp only [Act.put, List.setIfInBounds_toArray, List.set_cons_zero, List.set_cons_succ]
      refine wpAnyJ_take (i := 9) (v := ?_) rfl (by kernel_rfl) (by kernel_rfl) (by kernel_rfl) (by kernel_rfl) (by kernel_rfl) (by kernel_rfl) (by kernel_rfl) (fun _ _ _ h => h) (Or.inl ⟨by rfl, ?_⟩) (by assumption) ?_
      rotate_left
      · intro wq hwq
        first | (go_simp; done) | (go_simp; with_reducible rfl)
      try simp only [Act.put, List.setIfInBounds_toArray, List.set_cons_zero, List.set_cons_succ]
      refine wpAnyJ_take (i := 10) (v := ?_) rfl (by kernel_rfl) (by kernel_rfl) (by kernel_rfl) (by kernel_rfl) (by kernel_rfl) (by kernel_rfl) (by kernel_rfl) (fun _ _ _ h => h) (Or.inl ⟨by rfl, ?_⟩) (by assumption) ?_
      rotate_left
      · intro wq hwq
        first | (go_simp; done) | (go_simp; with_reducible rfl)
      try simp only [Act.put, List.setIfInBounds_toArray, List.set_cons_zero, List.set_cons_succ]
      refine wpAnyJ_take (i := 11) (v := ?_) rfl (by kernel_rfl) (by kernel_rfl) (by kernel_rfl) (by kernel_rfl) (by kernel_rfl) (by kernel_rfl) (by kernel_rfl) (fun _ _ _ h => h) (Or.inl ⟨by rfl, ?_⟩) (by assumption) ?_
      rotate_left
      · intro wq hwq
        first | (go_simp; done) | (go_simp; with_reducible rfl)
      try simp only [Act.put, List.setIfInBounds_toArray, List.set_cons_zero, List.set_cons_succ]
      show wpAnyJ _ _ _ _ _ _ _ _ _ w3.drew
      have hS5 := hSh
      generalize w3.drew = w5 at *
      clear hSh
      apply share
      · intro LSbcdem
        apply share
        · intro LSbcdm
          apply share
          · intro LSbcd
            apply share
            · intro LSbc
              apply share
              · intro LSbd
                apply share
                · intro LScd
                  refine wpAnyJ_three (i := 0) (j := 5) (l := 7) (by kernel_rfl) rfl rfl rfl ?_ ?_ ?_
                  · skip
                    intro K hK
                    go_simp
                    refine hK.out _ _ (Or.inr (hS5.alloc _)) ?_
                    clear hK K
                    have hn := NI.new hS5 31
                    have hal := (G.refl w5).alloc (.cells #[.bool false, .slice none 0 0] 31)
                    have hS6 := G.trans hS5 hal
                    generalize w5.heap.size = p1 at *
                    generalize w5.alloc (.cells #[.bool false, .slice none 0 0] 31) = w6 at *
                    have HB6 : Hid (NI w3 w6 p1 0) := hn
                    clear hn hal
                    refine wpAnyJ_two (i := 5) (j := 7) (by kernel_rfl) rfl rfl ?_ ?_
                    · skip
                      intro K hK
                      go_simp
                      go_wp2_with (go_at_call 32; refine Calls.mono (P := Tryd.prog) (den_c w6 b2 ya yb hyb0 (HYR.out.G hby (G.trans hG3 hS6))) ?_; rintro e w7 ⟨rfl, hg⟩)
                      refine hK.out _ _ (Or.inr (G.trans hS6 hg)) ?_
                      clear hK K
                      have hS7 := G.trans hS6 hg
                      have HB7 : Hid (NI w3 w7 p1 0) := HB6.out.G hg
                      clear hg hS6 HB6
                      refine wpAnyJ_listed (l' := #[true, true, true, true, true, true, false, false, true, true, true, true, false, false, false, false]) (by kernel_rfl) ?_
                      revert HB7
                      revert hS7
                      revert p1
                      revert w7
                      exact LSbd.out
                    · skip
                      intro K hK
                      go_simp
                      refine hK.out _ _ (Or.inr (hS6.alloc _)) ?_
                      clear hK K
                      have hn := NI.new hS6 31
                      have hal := (G.refl w6).alloc (.cells #[.bool false, .slice none 0 0] 31)
                      have hS7 := G.trans hS6 hal
                      have HBt := HB6.out.G hal
                      have hneHB : w6.heap.size ≠ p1 := by have := HB6.out.2.1; omega
                      generalize w6.heap.size = p2 at *
                      generalize w6.alloc (.cells #[.bool false, .slice none 0 0] 31) = w7 at *
                      have HC7 : Hid (NI w3 w7 p2 0) := hn
                      have HB7 : Hid (NI w3 w7 p1 0) := HBt
                      have HNEHCHB : Hid (p1 ≠ p2) := hneHB.symm
                      have HNEHBHC : Hid (p2 ≠ p1) := hneHB
                      clear hn hal hS6 HB6 HBt hneHB
                      refine wpAnyJ_listed (l' := #[true, true, true, true, true, false, false, true, true, true, true, true, false, false, false, false]) (by kernel_rfl) ?_
                      revert HNEHCHB
                      revert HNEHBHC
                      revert HC7
                      revert HB7
                      revert hS7
                      revert p2
                      revert p1
                      revert w7
                      exact LSbc.out
                  · skip
                    intro K hK
                    go_simp
                    go_wp2_with (go_at_call 32; refine Calls.mono (P := Tryd.prog) (den_c w5 b2 ya yb hyb0 (HYR.out.G hby (G.trans hG3 hS5))) ?_; rintro e w6 ⟨rfl, hg⟩)
                    refine hK.out _ _ (Or.inr (G.trans hS5 hg)) ?_
                    clear hK K
                    have hS6 := G.trans hS5 hg
                    clear hg
                    refine wpAnyJ_two (i := 0) (j := 7) (by kernel_rfl) rfl rfl ?_ ?_
                    · skip
                      intro K hK
                      go_simp
                      refine hK.out _ _ (Or.inr (hS6.alloc _)) ?_
                      clear hK K
                      have hn := NI.new hS6 31
                      have hal := (G.refl w6).alloc (.cells #[.bool false, .slice none 0 0] 31)
                      have hS7 := G.trans hS6 hal
                      generalize w6.heap.size = p1 at *
                      generalize w6.alloc (.cells #[.bool false, .slice none 0 0] 31) = w7 at *
                      have HB7 : Hid (NI w3 w7 p1 0) := hn
                      clear hn hal hS6
                      refine wpAnyJ_listed (l' := #[true, true, true, true, true, true, false, false, true, true, true, true, false, false, false, false]) (by kernel_rfl) ?_
                      revert HB7
                      revert hS7
                      revert p1
                      revert w7
                      exact LSbd.out
                    · skip
                      intro K hK
                      go_simp
                      refine hK.out _ _ (Or.inr (hS6.alloc _)) ?_
                      clear hK K
                      have hn := NI.new hS6 31
                      have hal := (G.refl w6).alloc (.cells #[.bool false, .slice none 0 0] 31)
                      have hS7 := G.trans hS6 hal
                      generalize w6.heap.size = p2 at *
                      generalize w6.alloc (.cells #[.bool false, .slice none 0 0] 31) = w7 at *
                      have HC7 : Hid (NI w3 w7 p2 0) := hn
                      clear hn hal hS6
                      refine wpAnyJ_listed (l' := #[false, true, true, true, true, true, false, true, true, true, true, true, false, false, false, false]) (by kernel_rfl) ?_
                      revert HC7
                      revert hS7
                      revert p2
                      revert w7
                      exact LScd.out
                  · skip
                    intro K hK
                    go_simp
                    refine hK.out _ _ (Or.inr (hS5.alloc _)) ?_
                    clear hK K
                    have hn := NI.new hS5 31
                    have hal := (G.refl w5).alloc (.cells #[.bool false, .slice none 0 0] 31)
                    have hS6 := G.trans hS5 hal
                    generalize w5.heap.size = p2 at *
                    generalize w5.alloc (.cells #[.bool false, .slice none 0 0] 31) = w6 at *
                    have HC6 : Hid (NI w3 w6 p2 0) := hn
                    clear hn hal
                    refine wpAnyJ_two (i := 0) (j := 5) (by kernel_rfl) rfl rfl ?_ ?_
                    · skip
                      intro K hK
                      go_simp
                      refine hK.out _ _ (Or.inr (hS6.alloc _)) ?_
                      clear hK K
                      have hn := NI.new hS6 31
                      have hal := (G.refl w6).alloc (.cells #[.bool false, .slice none 0 0] 31)
                      have hS7 := G.trans hS6 hal
                      have HCt := HC6.out.G hal
                      have hneHC : w6.heap.size ≠ p2 := by have := HC6.out.2.1; omega
                      generalize w6.heap.size = p1 at *
                      generalize w6.alloc (.cells #[.bool false, .slice none 0 0] 31) = w7 at *
                      have HB7 : Hid (NI w3 w7 p1 0) := hn
                      have HC7 : Hid (NI w3 w7 p2 0) := HCt
                      have HNEHBHC : Hid (p2 ≠ p1) := hneHC.symm
                      have HNEHCHB : Hid (p1 ≠ p2) := hneHC
                      clear hn hal hS6 HC6 HCt hneHC
                      refine wpAnyJ_listed (l' := #[true, true, true, true, true, false, false, true, true, true, true, true, false, false, false, false]) (by kernel_rfl) ?_
                      revert HNEHCHB
                      revert HNEHBHC
                      revert HC7
                      revert HB7
                      revert hS7
                      revert p2
                      revert p1
                      revert w7
                      exact LSbc.out
                    · skip
                      intro K hK
                      go_simp
                      go_wp2_with (go_at_call 32; refine Calls.mono (P := Tryd.prog) (den_c w6 b2 ya yb hyb0 (HYR.out.G hby (G.trans hG3 hS6))) ?_; rintro e w7 ⟨rfl, hg⟩)
                      refine hK.out _ _ (Or.inr (G.trans hS6 hg)) ?_
                      clear hK K
                      have hS7 := G.trans hS6 hg
                      have HC7 : Hid (NI w3 w7 p2 0) := HC6.out.G hg
                      clear hg hS6 HC6
                      refine wpAnyJ_listed (l' := #[false, true, true, true, true, true, false, true, true, true, true, true, false, false, false, false]) (by kernel_rfl) ?_
                      revert HC7
                      revert hS7
                      revert p2
                      revert w7
                      exact LScd.out
                · skip
                  refine Later.mk ?_
                  intro w7 p2 hS7 HC7 
                  refine wpAnyJ_next (i := 0) (by kernel_rfl) rfl ?_
                  intro K hK
                  go_simp
                  refine hK.out _ _ (Or.inr (hS7.alloc _)) ?_
                  clear hK K
                  have hn := NI.new hS7 31
                  have hal := (G.refl w7).alloc (.cells #[.bool false, .slice none 0 0] 31)
                  have hS8 := G.trans hS7 hal
                  have HCt := HC7.out.G hal
                  have hneHC : w7.heap.size ≠ p2 := by have := HC7.out.2.1; omega
                  generalize w7.heap.size = p1 at *
                  generalize w7.alloc (.cells #[.bool false, .slice none 0 0] 31) = w8 at *
                  have HB8 : Hid (NI w3 w8 p1 0) := hn
                  have HC8 : Hid (NI w3 w8 p2 0) := HCt
                  have HNEHBHC : Hid (p2 ≠ p1) := hneHC.symm
                  have HNEHCHB : Hid (p1 ≠ p2) := hneHC
                  clear hn hal hS7 HC7 HCt hneHC
                  refine wpAnyJ_listed (l' := #[true, true, true, true, true, true, false, true, true, true, true, true, false, false, false, false]) (by kernel_rfl) ?_
                  revert HNEHCHB
                  revert HNEHBHC
                  revert HC8
                  revert HB8
                  revert hS8
                  revert p2
                  revert p1
                  revert w8
                  exact LSbcd.out
              · skip
                refine Later.mk ?_
                intro w7 p1 hS7 HB7 
                refine wpAnyJ_two (i := 6) (j := 7) (by kernel_rfl) rfl rfl ?_ ?_
                · skip
                  intro K hK
                  go_simp
                  have HCW : Hid _ := mulI_c w7 p1 0 bx 0 b2 2 0 xa yb KB (by omega) HB01.out HB22.out HB7.out.2.1 (G.lt (G.trans hG3 hS7) hbx) (G.lt (G.trans hG3 hS7) hby) HB7.out.2.2 (IntIs.G HX0.out hbx (G.trans hG3 hS7)) (IntIs.G HY2.out hby (G.trans hG3 hS7))
                  go_wp2_with (go_at_call 31; refine Calls.mono (P := Tryd.prog) HCW.out ?_; intro e w8 hx; obtain ⟨rfl, hS8, hl, -, hkp⟩ := SetTo.step hS7 HB7.out hx)
                  have HB8 : Hid (NI w3 w8 p1 (xa * (yb : Int))) := hl
                  refine hK.out _ _ (Or.inr hS8) ?_
                  clear hK K hx hl hkp HCW hS7 HB7
                  refine wpAnyJ_two (i := 7) (j := 12) (by kernel_rfl) rfl rfl ?_ ?_
                  · skip
                    intro K hK
                    go_simp
                    refine hK.out _ _ (Or.inr (hS8.alloc _)) ?_
                    clear hK K
                    have hn := NI.new hS8 31
                    have hal := (G.refl w8).alloc (.cells #[.bool false, .slice none 0 0] 31)
                    have hS9 := G.trans hS8 hal
                    have HBt := HB8.out.G hal
                    have hneHB : w8.heap.size ≠ p1 := by have := HB8.out.2.1; omega
                    generalize w8.heap.size = p2 at *
                    generalize w8.alloc (.cells #[.bool false, .slice none 0 0] 31) = w9 at *
                    have HC9 : Hid (NI w3 w9 p2 0) := hn
                    have HB9 : Hid (NI w3 w9 p1 (xa * (yb : Int))) := HBt
                    have HNEHCHB : Hid (p1 ≠ p2) := hneHB.symm
                    have HNEHBHC : Hid (p2 ≠ p1) := hneHB
                    clear hn hal hS8 HB8 HBt hneHB
                    refine wpAnyJ_listed (l' := #[true, true, true, true, true, true, true, true, true, true, true, true, false, false, false, false]) (by kernel_rfl) ?_
                    revert HNEHCHB
                    revert HNEHBHC
                    revert HC9
                    revert HB9
                    revert hS9
                    revert p2
                    revert p1
                    revert w9
                    exact LSbcdm.out
                  · skip
                    intro K hK
                    go_simp
                    go_wp2_with (go_at_call 32; refine Calls.mono (P := Tryd.prog) (den_c w8 bx xa xb hxb0 (HXR.out.G hbx (G.trans hG3 hS8))) ?_; rintro e w9 ⟨rfl, hg⟩)
                    refine hK.out _ _ (Or.inr (G.trans hS8 hg)) ?_
                    clear hK K
                    have hS9 := G.trans hS8 hg
                    have HB9 : Hid (NI w3 w9 p1 (xa * (yb : Int))) := HB8.out.G hg
                    clear hg hS8 HB8
                    refine wpAnyJ_next (i := 7) (by kernel_rfl) rfl ?_
                    intro K hK
                    go_simp
                    refine hK.out _ _ (Or.inr (hS9.alloc _)) ?_
                    clear hK K
                    have hn := NI.new hS9 31
                    have hal := (G.refl w9).alloc (.cells #[.bool false, .slice none 0 0] 31)
                    have hS10 := G.trans hS9 hal
                    have HBt := HB9.out.G hal
                    have hneHB : w9.heap.size ≠ p1 := by have := HB9.out.2.1; omega
                    generalize w9.heap.size = p2 at *
                    generalize w9.alloc (.cells #[.bool false, .slice none 0 0] 31) = w10 at *
                    have HC10 : Hid (NI w3 w10 p2 0) := hn
                    have HB10 : Hid (NI w3 w10 p1 (xa * (yb : Int))) := HBt
                    have HNEHCHB : Hid (p1 ≠ p2) := hneHB.symm
                    have HNEHBHC : Hid (p2 ≠ p1) := hneHB
                    clear hn hal hS9 HB9 HBt hneHB
                    refine wpAnyJ_listed (l' := #[true, true, true, true, true, true, true, true, true, true, true, true, true, false, false, false]) (by kernel_rfl) ?_
                    revert HNEHCHB
                    revert HNEHBHC
                    revert HC10
                    revert HB10
                    revert hS10
                    revert p2
                    revert p1
                    revert w10
                    exact LSbcdem.out
                · skip
                  intro K hK
                  go_simp
                  refine hK.out _ _ (Or.inr (hS7.alloc _)) ?_
                  clear hK K
                  have hn := NI.new hS7 31
                  have hal := (G.refl w7).alloc (.cells #[.bool false, .slice none 0 0] 31)
                  have hS8 := G.trans hS7 hal
                  have HBt := HB7.out.G hal
                  have hneHB : w7.heap.size ≠ p1 := by have := HB7.out.2.1; omega
                  generalize w7.heap.size = p2 at *
                  generalize w7.alloc (.cells #[.bool false, .slice none 0 0] 31) = w8 at *
                  have HC8 : Hid (NI w3 w8 p2 0) := hn
                  have HB8 : Hid (NI w3 w8 p1 0) := HBt
                  have HNEHCHB : Hid (p1 ≠ p2) := hneHB.symm
                  have HNEHBHC : Hid (p2 ≠ p1) := hneHB
                  clear hn hal hS7 HB7 HBt hneHB
                  refine wpAnyJ_listed (l' := #[true, true, true, true, true, true, false, true, true, true, true, true, false, false, false, false]) (by kernel_rfl) ?_
                  revert HNEHCHB
                  revert HNEHBHC
                  revert HC8
                  revert HB8
                  revert hS8
                  revert p2
                  revert p1
                  revert w8
                  exact LSbcd.out
            · skip
              refine Later.mk ?_
              intro w7 p1 p2 hS7 HB7 HC7 HNEHBHC HNEHCHB
              refine wpAnyJ_next (i := 5) (by kernel_rfl) rfl ?_
              intro K hK
              go_simp
              go_wp2_with (go_at_call 32; refine Calls.mono (P := Tryd.prog) (den_c w7 b2 ya yb hyb0 (HYR.out.G hby (G.trans hG3 hS7))) ?_; rintro e w8 ⟨rfl, hg⟩)
              refine hK.out _ _ (Or.inr (G.trans hS7 hg)) ?_
              clear hK K
              have hS8 := G.trans hS7 hg
              have HB8 : Hid (NI w3 w8 p1 0) := HB7.out.G hg
              have HC8 : Hid (NI w3 w8 p2 0) := HC7.out.G hg
              clear hg hS7 HB7 HC7
              refine wpAnyJ_listed (l' := #[true, true, true, true, true, true, false, true, true, true, true, true, false, false, false, false]) (by kernel_rfl) ?_
              revert HNEHCHB
              revert HNEHBHC
              revert HC8
              revert HB8
              revert hS8
              revert p2
              revert p1
              revert w8
              exact LSbcd.out
          · skip
            refine Later.mk ?_
            intro w8 p1 p2 hS8 HB8 HC8 HNEHBHC HNEHCHB
            refine wpAnyJ_next (i := 6) (by kernel_rfl) rfl ?_
            intro K hK
            go_simp
            have HCW : Hid _ := mulI_c w8 p1 0 bx 0 b2 2 0 xa yb KB (by omega) HB01.out HB22.out HB8.out.2.1 (G.lt (G.trans hG3 hS8) hbx) (G.lt (G.trans hG3 hS8) hby) HB8.out.2.2 (IntIs.G HX0.out hbx (G.trans hG3 hS8)) (IntIs.G HY2.out hby (G.trans hG3 hS8))
            go_wp2_with (go_at_call 31; refine Calls.mono (P := Tryd.prog) HCW.out ?_; intro e w9 hx; obtain ⟨rfl, hS9, hl, -, hkp⟩ := SetTo.step hS8 HB8.out hx)
            have HB9 : Hid (NI w3 w9 p1 (xa * (yb : Int))) := hl
            have HC9 : Hid (NI w3 w9 p2 0) := hkp p2 0 HNEHBHC.out HC8.out
            refine hK.out _ _ (Or.inr hS9) ?_
            clear hK K hx hl hkp HCW hS8 HB8 HC8
            refine wpAnyJ_listed (l' := #[true, true, true, true, true, true, true, true, true, true, true, true, false, false, false, false]) (by kernel_rfl) ?_
            revert HNEHCHB
            revert HNEHBHC
            revert HC9
            revert HB9
            revert hS9
            revert p2
            revert p1
            revert w9
            exact LSbcdm.out
        · skip
          refine Later.mk ?_
          intro w9 p1 p2 hS9 HB9 HC9 HNEHBHC HNEHCHB
          refine wpAnyJ_next (i := 12) (by kernel_rfl) rfl ?_
          intro K hK
          go_simp
          go_wp2_with (go_at_call 32; refine Calls.mono (P := Tryd.prog) (den_c w9 bx xa xb hxb0 (HXR.out.G hbx (G.trans hG3 hS9))) ?_; rintro e w10 ⟨rfl, hg⟩)
          refine hK.out _ _ (Or.inr (G.trans hS9 hg)) ?_
          clear hK K
          have hS10 := G.trans hS9 hg
          have HB10 : Hid (NI w3 w10 p1 (xa * (yb : Int))) := HB9.out.G hg
          have HC10 : Hid (NI w3 w10 p2 0) := HC9.out.G hg
          clear hg hS9 HB9 HC9
          refine wpAnyJ_listed (l' := #[true, true, true, true, true, true, true, true, true, true, true, true, true, false, false, false]) (by kernel_rfl) ?_
          revert HNEHCHB
          revert HNEHBHC
          revert HC10
          revert HB10
          revert hS10
          revert p2
          revert p1
          revert w10
          exact LSbcdem.out
      · skip
        refine Later.mk ?_
        intro w10 p1 p2 hS10 HB10 HC10 HNEHBHC HNEHCHB
        refine wpAnyJ_next (i := 13) (by kernel_rfl) rfl ?_
        intro K hK
        go_simp
        have HCW : Hid _ := mulI_c w10 p2 0 b2 0 bx 2 0 ya xb KB (by omega) HB02.out HB21.out HC10.out.2.1 (G.lt (G.trans hG3 hS10) hby) (G.lt (G.trans hG3 hS10) hbx) HC10.out.2.2 (IntIs.G HY0.out hby (G.trans hG3 hS10)) (IntIs.G HX2.out hbx (G.trans hG3 hS10))
        go_wp2_with (go_at_call 31; refine Calls.mono (P := Tryd.prog) HCW.out ?_; intro e w11 hx; obtain ⟨rfl, hS11, hl, -, hkp⟩ := SetTo.step hS10 HC10.out hx)
        have HC11 : Hid (NI w3 w11 p2 (ya * (xb : Int))) := hl
        have HB11 : Hid (NI w3 w11 p1 (xa * (yb : Int))) := hkp p1 (xa * (yb : Int)) HNEHCHB.out HB10.out
        refine hK.out _ _ (Or.inr hS11) ?_
        clear hK K hx hl hkp HCW hS10 HB10 HC10
        refine wpAnyJ_next (i := 14) (by kernel_rfl) rfl ?_
        intro K hK
        go_simp
        go_wp2_with (go_at_call 65; refine Calls.mono (P := Tryd.prog) (cmpI_c w11 p1 0 p2 0 (xa * (yb : Int)) (ya * (xb : Int)) (2 * KB) (by omega) HN1.out HN2.out HB11.out.2.1 HC11.out.2.1 HB11.out.2.2 HC11.out.2.2) ?_; rintro e w12 ⟨rfl, hg⟩)
        refine hK.out _ _ (Or.inl (by decide)) ?_
        clear hK K
        have hS12 := G.trans hS11 hg
        have HB12 : Hid (NI w3 w12 p1 (xa * (yb : Int))) := HB11.out.G hg
        have HC12 : Hid (NI w3 w12 p2 (ya * (xb : Int))) := HC11.out.G hg
        clear hg hS11 HB11 HC11
        refine wpAnyJ_next (i := 15) (by kernel_rfl) rfl ?_
        intro K hK
        go_simp
        refine hK.out _ _ (Or.inl (by decide)) ?_
        clear hK K
        refine wpAnyJ_done (by kernel_rfl) ?_ _
        revert HNEHCHB
        revert HNEHBHC
        revert HC12
        revert HB12
        revert hS12
        revert p2
        revert p1
        revert w12
        exact LX.out
    · skip
      refine Later.mk ?_
      intro w12 p1 p2 hS12 HB12 HC12 HNEHBHC HNEHCHB
      have hG := G.trans hG3 hS12
      go_wp2_with fail
      go_ret
      exact ⟨rfl, hG⟩

end Go.Proofs.YtkelfdhpekkiaacDoor
