/- What is proved here: the law on sums of lists, over this seat's translation. -/
import Derived.Test.YtielcpkcfpbanacGreatDoorC36
import Derived.Test.YtielcpkcfpbanacGreatDoorC35
import Derived.Test.YtielcpkcfpbanacGreatDoorC2
namespace Go.Proofs.YtielcpkcfpbanacGreatDoor.EN
open Go.ChangeShapes Go.WideShapes Go.ChangeAt Go.RowKit
attribute [local go_sem] run_store_flt

/-- What is kept while entries change places. -/
def Kept (l ms : List Nat) : Prop := ms.length = l.length ∧ (∀ b ∈ ms, b ∈ l) ∧ (ms.map fz).sum = (l.map fz).sum ∧ (ms.map bad).sum = (l.map bad).sum
theorem Kept.swap {l ms : List Nat} (h : Kept l ms) {p q : Nat} (hp : p < ms.length) (hq : q < ms.length) : Kept l (swap ms p q) :=
  ⟨(swap_len ms p q).trans h.1, fun b hb => h.2.1 b (swap_mem hp hq hb), (swap_sum fz hp hq).trans h.2.2.1, (swap_sum bad hp hq).trans h.2.2.2⟩
theorem Kept.fin {l ms : List Nat} (h : Kept l ms) : Fin ms ↔ Fin l := by
  rw [(fin_bad ms).2, (fin_bad l).2, h.2.2.2]
theorem FOwn.at {w : World} {base b n cap : Nat} {l : List Nat} (h : FOwn w base (.slice (some ⟨b, 0, none⟩) n cap) l) {i : Nat} (hi : i < l.length) : w.cell? ⟨b, i, none⟩ = some (.float .f64 (l.getD i 0)) ∧ w.frozen? ⟨b, i, none⟩ = false ∧ b < w.heap.size ∧ base ≤ b := by
  obtain ⟨a, c, e, -, hr⟩ := h.fsl
  obtain ⟨b2, o2, e2, h1, h2⟩ := hr i hi
  injection e with e3 e4 e5
  rw [← e3] at e2
  injection e2 with e2
  injection e2 with e6 e7
  subst e6; subst e7
  rw [Nat.zero_add] at h2
  refine ⟨h2, ?_, h1, ?_⟩
  · rcases h with ⟨e, -⟩ | ⟨g, cap', cur, e, -, h3, -⟩
    · cases e
    · injection e with e8 e9 e10
      injection e8 with e8
      injection e8 with e8
      subst e8
      simp [World.frozen?, h3]
  · rcases h with ⟨e, -⟩ | ⟨g, cap', cur, e, h4, -⟩
    · cases e
    · injection e with e8 e9 e10
      injection e8 with e8
      injection e8 with e8
      omega
theorem FOwn.base {w : World} {base : Nat} {v : Value} {l : List Nat} (h : FOwn w base v l) (hl : 0 < l.length) : ∃ b c, v = .slice (some ⟨b, 0, none⟩) l.length c := by
  rcases h with ⟨-, e⟩ | ⟨g, cap', cur, e, -⟩
  · rw [e] at hl; simp at hl
  · exact ⟨g, cap', e⟩

theorem same_sums {l ms : List Nat} {x y : Nat} {c a d e : Int} (hk : Kept l ms)
    (h : (Fin l ∧ x = flW 1 (Uz (l.map fz).sum) ∧ c = 0 ∧ a = 0) ∨ (∃ i : Nat, x = 0 ∧ c = 4 ∧ a = i ∧ i < l.length ∧ fex (l.getD i 0) = 2047 ∧ ∀ j, j < i → fex (l.getD j 0) < 2047))
    (h2 : (Fin ms ∧ y = flW 1 (Uz (ms.map fz).sum) ∧ d = 0 ∧ e = 0) ∨ (∃ i : Nat, y = 0 ∧ d = 4 ∧ e = i ∧ i < ms.length ∧ fex (ms.getD i 0) = 2047 ∧ ∀ j, j < i → fex (ms.getD j 0) < 2047)) : x = y ∧ c = d := by
  rcases h with ⟨h1, e1, e2, -⟩ | ⟨i, e1, e2, -, h3, h4, -⟩
  · rcases h2 with ⟨h5, e3, e4, -⟩ | ⟨i, e3, e4, -, h3, h4, -⟩
    · rw [hk.2.2.1] at e3
      exact ⟨e1.trans e3.symm, e2.trans e4.symm⟩
    · exact absurd h4 (fun h => not_fin (hk.fin.2 h1) h3 h)
  · rcases h2 with ⟨h5, e3, e4, -⟩ | ⟨i, e3, e4, -, h5, h6, -⟩
    · exact absurd h4 (fun h => not_fin (hk.fin.1 h5) h3 h)
    · exact ⟨e1.trans e3.symm, e2.trans e4.symm⟩
theorem not_nan {l : List Nat} {x : Nat} {c a : Int} (h : (Fin l ∧ x = flW 1 (Uz (l.map fz).sum) ∧ c = 0 ∧ a = 0) ∨ (∃ i : Nat, x = 0 ∧ c = 4 ∧ a = i ∧ i < l.length ∧ fex (l.getD i 0) = 2047 ∧ ∀ j, j < i → fex (l.getD j 0) < 2047)) :
    (FloatKind.f64.format.order x x == some .eq) = true := by
  have hw : ∀ (s : Bool) (V : Nat), V ≤ 2047 * 2 ^ 52 → (FloatKind.f64.format.order (FT.wrd s V) (FT.wrd s V) == some .eq) = true := fun s V h => by rw [ord_wrd s h h]; exact decide_eq_true rfl
  have h0 : (FloatKind.f64.format.order 0 0 == some .eq) = true := hw false 0 (by omega)
  have h1 : ∀ q : Rat, (FloatKind.f64.format.order (flW 1 q) (flW 1 q) == some .eq) = true := fun q => by
    unfold flW
    split
    · exact h0
    · rename_i hq
      exact hw _ _ (rV_le hq)
  rcases h with ⟨-, e, -⟩ | ⟨i, e, -⟩
  · rw [e]; exact h1 _
  · rw [e]; exact h0
theorem tmod_bounds (t : Int) (n : Nat) (h : 0 < n) : -(n : Int) < t.tmod n ∧ t.tmod n < n := by
  rcases Int.le_total 0 t with h0 | h0
  · have h1 := Int.tmod_nonneg n h0
    have h2 := Int.tmod_lt_of_pos t (show (0 : Int) < n by omega)
    omega
  · have h1 := Int.tmod_nonneg n (show 0 ≤ -t by omega)
    have h2 := Int.tmod_lt_of_pos (-t) (show (0 : Int) < n by omega)
    rw [Int.neg_tmod] at h1 h2
    omega
set_option maxRecDepth 10000 in
set_option maxHeartbeats 4000000 in
theorem laws_x (w : World) (v u : Value) (l : List Nat) (ts : List Int) (hT : Tab w) (hv : FSl w v l) (hu : ISl w u ts) (hl : ∀ b ∈ l, b < 2 ^ 64) (hn : l.length ≤ 300) (hk : ts.length ≤ 1000) (hts : ∀ i, -9223372036854775808 ≤ ts.getD i 0 ∧ ts.getD i 0 < 9223372036854775808)
    (HS : ∀ w1, G w w1 → Calls Tryz.prog 7 #[] w1 fun e w' => e = .returned (.bool true) ∧ G w1 w') :
    Calls Tryz.prog 6 #[v, u] w fun e w' => e = .returned (.bool true) ∧ G w w' := by
  have H1 : Hid (∀ w1, G w w1 → _) := HS
  have H3 : Hid (∀ w1 v, G w w1 → FSl w1 v l → _) := fun w1 v g h => sum_c w1 v l 1 (Or.inl rfl) (hT.G g) h hl (by omega)
  have HV : Hid (FSl w v l) := hv
  have HU : Hid (ISl w u ts) := hu
  have HLT : Hid (∀ b ∈ l, b < 2 ^ 64) := hl
  have HTb : Hid (Tab w) := hT
  have HTS : Hid _ := hts
  obtain ⟨pa, ca, rfl, -, -⟩ := hv
  obtain ⟨pb, cb, rfl, -, -⟩ := hu
  have H2 : Hid (∀ w1, _) := fun w1 => enough_c w1 l.length hn
  obtain ⟨n, hn'⟩ : ∃ n, n = l.length := ⟨_, rfl⟩
  obtain ⟨k, hk'⟩ : ∃ k, k = ts.length := ⟨_, rfl⟩
  rw [← hn'] at H2 hn ⊢
  rw [← hk'] at hk ⊢
  have HN : Hid (n = l.length) := hn'
  have HK : Hid (k = ts.length) := hk'
  obtain ⟨kk, hkk⟩ : ∃ kk : Nat, kk = 41 := ⟨_, rfl⟩
  obtain ⟨L, o, hF, hLl, hTl⟩ := fr_units kk (l.map fz).sum 9223372036854775807 (sums_lt (by omega) hkk) (by omega) (by omega)
  have HOf : Hid (∀ w1, G w w1 → Calls Tryz.prog 16 #[.slice pa n ca] w1 (RetOf w1 l L o)) := fun w1 g => list_c w1 _ l L o (hT.G g) (by rw [hn']; exact FSl.G HV.out g) hl (by omega) (by omega) (fun _ => hF)
  have HTl : Hid (o = true → Tells (l.map fz).sum L) := hTl
  clear hF hTl
  rw [hkk] at hLl
  clear hkk kk
  have h3 : decide ((300 : Int) < n) = false := decide_eq_false (by omega)
  have h4 : decide ((1000 : Int) < k) = false := decide_eq_false (by omega)
  clear HS hT hl hts hn' hk'
  go_enter Tryz.func6, Tryz.ntmps6
  go_wp2_with fail
  refine Calls.mono (P := Tryz.prog) (H1.out w (G.refl _)) ?_
  rintro e w1 ⟨rfl, g1⟩
  go_wp2_with fail
  refine Calls.mono (P := Tryz.prog) (H2.out w1) ?_
  rintro e w2 ⟨rfl, g2⟩
  clear H1 H2
  go_wp2_with fail
  have g02 := G.trans g1 g2
  refine Calls.mono (P := Tryz.prog) (H3.out w2 _ g02 (by rw [HN.out]; exact FSl.G HV.out g02)) ?_
  intro e w3 hs
  obtain ⟨x, c, a, rfl, g3, hx⟩ := hs
  have HX : Hid _ := hx
  have g03 := G.trans g02 g3
  have g3a : G w ((w3.alloc (.cells #[.int .i64 c, .int .i64 a] 29)).alloc (.cells #[] 26)) := (g03.alloc _).alloc _
  obtain ⟨vm, w4, hrun, hown4, honto⟩ := app_fsl ((w3.alloc (.cells #[.int .i64 c, .int .i64 a] 29)).alloc (.cells #[] 26)) (w3.heap.size + 1) (.slice (some ⟨w3.heap.size + 1, 0, none⟩) 0 0) (.slice pa n ca) [] l
    (fown_none _ _ _ _ (by simp) (by simp) rfl) (by simp) (by rw [HN.out]; exact FSl.G HV.out g3a) (by simp; rw [← HN.out]; omega)
  rw [List.nil_append] at hown4
  obtain ⟨pm, cm, rfl⟩ := hown4.len
  rw [← HN.out] at hown4
  have HO4 : Hid (FOwn w4 (w3.heap.size + 1) (.slice pm n cm) l) := hown4
  have RF4 : Hid (Rec w4 w3.heap.size [.int .i64 c, .int .i64 a]) := honto.r _ _ (Rec.G (Rec.new2 w3 (.int .i64 c) (.int .i64 a) 29) ((G.refl _).alloc _)) (by intro e; have e1 := Option.some.inj e; simp at e1)
  have hb3 : w.heap.size ≤ w3.heap.size := g03.size
  have g04 : G w w4 := honto.g w (by omega) g3a
  rw [← HN.out] at hrun
  clear hown4 honto g3a hx g1 g2 g3 H3
  go_wp2_with (at_builtin; refine wpList_app _ rfl (.tmp 37) (.tmp 38) 22 rfl _ _ rfl rfl hrun ?_)
  clear hrun g02 g03 h3 h4
  obtain ⟨fb, hfb⟩ : ∃ fb, fb = w3.heap.size := ⟨_, rfl⟩
  rw [← hfb] at HO4 RF4 hb3 ⊢
  clear hfb
  go_loopw [8] (fun vi wr => ∃ (i : Nat) (ms : List Nat), vi = .int .i64 i ∧ i ≤ k + 1 ∧ Kept l ms ∧ FOwn wr (fb + 1) (.slice pm n cm) ms ∧ Rec wr fb [.int .i64 c, .int .i64 a] ∧ G w wr) (fun vi _ => k + 2 - (intOf vi).toNat)
  case atStart => exact ⟨0, l, rfl, by omega, ⟨rfl, fun _ h => h, rfl, rfl⟩, HO4.out, RF4.out, g04⟩
  case round =>
    obtain ⟨i, ms, rfl, hi, hkept, hown, hrec, hG⟩ := hrel
    have HKp : Hid (Kept l ms) := hkept
    have HO : Hid (FOwn _ _ _ _) := hown
    have HRf : Hid (Rec _ _ _) := hrec
    clear hkept hown hrec HO4 RF4 g04
    by_cases hik : i + 1 < k
    · by_cases hn0 : 0 < n
      · have hmn : ms.length = n := by rw [HKp.out.1, HN.out]
        obtain ⟨bm, cm', ebm⟩ := FOwn.base HO.out (by omega)
        injection ebm with ebm e2 e3
        subst ebm
        clear e2 e3
        obtain ⟨pa', cu', eu, -, hur⟩ := HU.out
        injection eu with eu1 eu2 eu3
        subst eu1
        obtain ⟨bt, ot, rfl, hbt, hc1'⟩ := hur i (by rw [← HK.out]; omega)
        obtain ⟨bt2, ot2, e2, -, hc2'⟩ := hur (i + 1) (by rw [← HK.out]; omega)
        injection e2 with e2
        injection e2 with e4 e5
        subst e4; subst e5
        have hc1 := hG.cell (p := ⟨bt, ot + i, none⟩) hbt hc1'
        have hc2 := hG.cell (p := ⟨bt, ot + (i + 1), none⟩) hbt hc2'
        have ht1 := HTS.out i
        have ht2 := HTS.out (i + 1)
        generalize ts.getD i 0 = t1 at *
        generalize ts.getD (i + 1) 0 = t2 at *
        clear hur eu2 eu3 hc1' hc2'
        go_wp2_with fail
        have hsz := hG.size
        have hbt2 : bt < wr.heap.size := by omega
        have hnz : ((n : Int) == 0) = false := by simp; omega
        refine region_gw (by kernel_rfl) (by kernel_rfl) ?_
        intro W hW
        have hq1 := gw_cell (w := W) (a := ⟨bt, ot + i, none⟩) (x := .int .i64 t1) (by rw [hW]; first | (simp; done) | (simp; omega) | omega) (by rw [hW]; first | assumption | (simp [go_sem]; done) | (simp [*, go_sem]; done))
        have hq2 := gw_cell (w := W) (a := ⟨bt, ot + (i + 1), none⟩) (x := .int .i64 t2) (by rw [hW]; first | (simp; done) | (simp; omega) | omega) (by rw [hW]; first | assumption | (simp [go_sem]; done) | (simp [*, go_sem]; done))
        clear hW
        repeat (go_big_quiet_step (fail))
        refine wpQuiet_nil ?_
        clear hq1 hq2
        intro w5 hw5
        clear hc1 hc2 ht1 ht2 hbt hbt2 hnz hsz
        have g5 := G.trans hG hw5
        have HO5 : Hid (FOwn w5 _ _ ms) := FOwn.G HO.out hw5
        have HR5 : Hid (Rec w5 fb _) := Rec.G HRf.out hw5
        clear HO HRf hw5
        obtain ⟨hp1, hp2⟩ := tmod_bounds t1 n hn0
        obtain ⟨hq1, hq2⟩ := tmod_bounds t2 n hn0
        generalize t1.tmod n = p at *
        generalize t2.tmod n = q at *
        by_cases hp0 : 0 ≤ p
        · by_cases hq0 : 0 ≤ q
          · obtain ⟨P, rfl⟩ : ∃ P : Nat, p = P := ⟨p.toNat, by omega⟩
            obtain ⟨Q, rfl⟩ : ∃ Q : Nat, q = Q := ⟨q.toNat, by omega⟩
            have hP : P < n := by omega
            have hQ : Q < n := by omega
            have hsw := HKp.out.swap (p := P) (q := Q) (by omega) (by omega)
            obtain ⟨hcP, hfP, hbm, hbb⟩ := FOwn.at HO5.out (i := P) (by omega)
            obtain ⟨hcQ, hfQ, -, -⟩ := FOwn.at HO5.out (i := Q) (by omega)
            have hcQ2 := (FOwn.at (FOwn.set (i := P) (x := ms.getD Q 0) HO5.out) (i := Q) (by rw [List.length_set]; omega)).1
            generalize (ms.set P (ms.getD Q 0)).getD Q 0 = xz at hcQ2
            have hset : FOwn ((w5.setCell ⟨bm, P, none⟩ (.float .f64 (ms.getD Q 0))).setCell ⟨bm, Q, none⟩ (.float .f64 (ms.getD P 0))) (fb + 1) (.slice (some ⟨bm, 0, none⟩) n cm) (swap ms P Q) := FOwn.set (i := Q) (x := ms.getD P 0) (FOwn.set (i := P) (x := ms.getD Q 0) HO5.out)
            have hne : bm ≠ fb := by omega
            have hwb : w.heap.size ≤ bm := by omega
            have HSw : Hid _ := hsw
            have HSet : Hid (FOwn _ _ _ _) := hset
            clear hsw hset hp1 hp2 hq1 hq2 hp0 hq0 hi
            generalize ms.getD P 0 = xp at *
            generalize ms.getD Q 0 = xq at *
            go_wp2_with fail
            refine wp_region_any (by kernel_rfl) ?_
            refine wpAny_takeL (i := 0) (v := ?_) rfl (by kernel_rfl) (by kernel_rfl) (by kernel_rfl) (fun _ _ _ h => h) (Or.inl ⟨by rfl, ?_⟩) ?_
            rotate_left
            · intro wq; first | (go_simp; done) | (go_simp; with_reducible rfl)
            try simp only [Act.put, List.setIfInBounds_toArray, List.set_cons_zero, List.set_cons_succ]
            refine wpAny_takeL (i := 1) (v := ?_) rfl (by kernel_rfl) (by kernel_rfl) (by kernel_rfl) (fun _ _ _ h => h) (Or.inl ⟨by rfl, ?_⟩) ?_
            rotate_left
            · intro wq; first | (go_simp; done) | (go_simp; with_reducible rfl)
            try simp only [Act.put, List.setIfInBounds_toArray, List.set_cons_zero, List.set_cons_succ]
            refine wpAny_takeL (i := 2) (v := ?_) rfl (by kernel_rfl) (by kernel_rfl) (by kernel_rfl) (fun _ _ _ h => h) (Or.inl ⟨by rfl, ?_⟩) ?_
            rotate_left
            · intro wq; first | (go_simp; done) | (go_simp; with_reducible rfl)
            try simp only [Act.put, List.setIfInBounds_toArray, List.set_cons_zero, List.set_cons_succ]
            refine wpAny_takeL (i := 3) (v := ?_) rfl (by kernel_rfl) (by kernel_rfl) (by kernel_rfl) (fun _ _ _ h => h) (Or.inl ⟨by rfl, ?_⟩) ?_
            rotate_left
            · intro wq; first | (go_simp; done) | (go_simp; with_reducible rfl)
            try simp only [Act.put, List.setIfInBounds_toArray, List.set_cons_zero, List.set_cons_succ]
            refine wpAny_takeL (i := 4) (v := ?_) rfl (by kernel_rfl) (by kernel_rfl) (by kernel_rfl) (fun _ _ _ h => h) (Or.inl ⟨by rfl, ?_⟩) ?_
            rotate_left
            · intro wq; first | (go_simp; done) | (go_simp; with_reducible rfl)
            try simp only [Act.put, List.setIfInBounds_toArray, List.set_cons_zero, List.set_cons_succ]
            refine wpAny_takeL (i := 5) (v := ?_) rfl (by kernel_rfl) (by kernel_rfl) (by kernel_rfl) (fun _ _ _ h => h) (Or.inl ⟨by rfl, ?_⟩) ?_
            rotate_left
            · intro wq; first | (go_simp; done) | (go_simp; with_reducible rfl)
            try simp only [Act.put, List.setIfInBounds_toArray, List.set_cons_zero, List.set_cons_succ]
            refine wpAny_takeL (i := 6) (v := ?_) rfl (by kernel_rfl) (by kernel_rfl) (by kernel_rfl) (fun _ _ _ h => h) (Or.inl ⟨by rfl, ?_⟩) ?_
            rotate_left
            · intro wq; first | (go_simp; done) | (go_simp; with_reducible rfl)
            try simp only [Act.put, List.setIfInBounds_toArray, List.set_cons_zero, List.set_cons_succ]
            refine wpAny_takeL (i := 8) (v := ?_) rfl (by kernel_rfl) (by kernel_rfl) (by kernel_rfl) (fun _ _ _ h => h) (Or.inl ⟨by rfl, ?_⟩) ?_
            rotate_left
            · intro wq; first | (go_simp; done) | (go_simp; with_reducible rfl)
            try simp only [Act.put, List.setIfInBounds_toArray, List.set_cons_zero, List.set_cons_succ]
            refine wpAny_takeL (i := 9) (v := ?_) rfl (by kernel_rfl) (by kernel_rfl) (by kernel_rfl) (fun _ _ _ h => h) (Or.inl ⟨by rfl, ?_⟩) ?_
            rotate_left
            · intro wq; first | (go_simp; done) | (go_simp; with_reducible rfl)
            try simp only [Act.put, List.setIfInBounds_toArray, List.set_cons_zero, List.set_cons_succ]
            refine wpAny_takeL (i := 10) (v := ?_) rfl (by kernel_rfl) (by kernel_rfl) (by kernel_rfl) (fun _ _ _ h => h) (Or.inl ⟨by rfl, ?_⟩) ?_
            rotate_left
            · intro wq; first | (go_simp; done) | (go_simp; with_reducible rfl)
            try simp only [Act.put, List.setIfInBounds_toArray, List.set_cons_zero, List.set_cons_succ]
            refine wpAny_ready (rs := [7, 11]) (by kernel_rfl) (by simp) ?_
            refine AllReady.cons rfl (fun K hK => ?_) (AllReady.cons rfl (fun K hK => ?_) AllReady.nil)
            · go_simp
              refine hK _ _ ?_
              clear hK K
              refine wpAny_ready (rs := [11]) (by kernel_rfl) (by simp) ?_
              refine AllReady.cons rfl (fun K hK => ?_) AllReady.nil
              go_simp
              refine hK _ _ ?_
              clear hK K
              refine wpAny_takeL (i := 12) (v := ?_) rfl (by kernel_rfl) (by kernel_rfl) (by kernel_rfl) (fun _ _ _ h => h) (Or.inl ⟨by rfl, ?_⟩) ?_
              rotate_left
              · intro wq; first | (go_simp; done) | (go_simp; with_reducible rfl)
              try simp only [Act.put, List.setIfInBounds_toArray, List.set_cons_zero, List.set_cons_succ]
              refine wpAny_ready (rs := [13]) (by kernel_rfl) (by simp) ?_
              refine AllReady.cons rfl (fun K hK => ?_) AllReady.nil
              go_simp
              refine hK _ _ ?_
              clear hK K
              refine wpAny_takeL (i := 14) (v := ?_) rfl (by kernel_rfl) (by kernel_rfl) (by kernel_rfl) (fun _ _ _ h => h) (Or.inl ⟨by rfl, ?_⟩) ?_
              rotate_left
              · intro wq; first | (go_simp; done) | (go_simp; with_reducible rfl)
              try simp only [Act.put, List.setIfInBounds_toArray, List.set_cons_zero, List.set_cons_succ]
              refine wpAny_ready (rs := [15]) (by kernel_rfl) (by simp) ?_
              refine AllReady.cons rfl (fun K hK => ?_) AllReady.nil
              go_simp
              refine hK _ _ ?_
              clear hK K
              refine wpAny_done (by kernel_rfl) ?_ _
              clear hcP hcQ hfP hfQ hcQ2
              go_wp2_with fail
              go_roundw
              case rel => exact ⟨i + 2, swap ms P Q, by go_num, by omega, HSw.out, FOwn.G HSet.out (G.refl _).drew, Rec.G (Rec.oth (Rec.oth HR5.out (p := ⟨bm, P, none⟩) (.float .f64 xq) hne) (p := ⟨bm, Q, none⟩) (.float .f64 xp) hne) (G.refl _).drew, ((g5.setCell (p := ⟨bm, P, none⟩) hwb (.float .f64 xq)).setCell (p := ⟨bm, Q, none⟩) hwb (.float .f64 xp)).drew⟩
              case measure => simp only [intOf]; omega
            · go_simp
              refine hK _ _ ?_
              clear hK K
              refine wpAny_ready (rs := [7]) (by kernel_rfl) (by simp) ?_
              refine AllReady.cons rfl (fun K hK => ?_) AllReady.nil
              go_simp
              refine hK _ _ ?_
              clear hK K
              refine wpAny_takeL (i := 12) (v := ?_) rfl (by kernel_rfl) (by kernel_rfl) (by kernel_rfl) (fun _ _ _ h => h) (Or.inl ⟨by rfl, ?_⟩) ?_
              rotate_left
              · intro wq; first | (go_simp; done) | (go_simp; with_reducible rfl)
              try simp only [Act.put, List.setIfInBounds_toArray, List.set_cons_zero, List.set_cons_succ]
              refine wpAny_ready (rs := [13]) (by kernel_rfl) (by simp) ?_
              refine AllReady.cons rfl (fun K hK => ?_) AllReady.nil
              go_simp
              refine hK _ _ ?_
              clear hK K
              refine wpAny_takeL (i := 14) (v := ?_) rfl (by kernel_rfl) (by kernel_rfl) (by kernel_rfl) (fun _ _ _ h => h) (Or.inl ⟨by rfl, ?_⟩) ?_
              rotate_left
              · intro wq; first | (go_simp; done) | (go_simp; with_reducible rfl)
              try simp only [Act.put, List.setIfInBounds_toArray, List.set_cons_zero, List.set_cons_succ]
              refine wpAny_ready (rs := [15]) (by kernel_rfl) (by simp) ?_
              refine AllReady.cons rfl (fun K hK => ?_) AllReady.nil
              go_simp
              refine hK _ _ ?_
              clear hK K
              refine wpAny_done (by kernel_rfl) ?_ _
              clear hcP hcQ hfP hfQ hcQ2
              go_wp2_with fail
              go_roundw
              case rel => exact ⟨i + 2, swap ms P Q, by go_num, by omega, HSw.out, FOwn.G HSet.out (G.refl _).drew, Rec.G (Rec.oth (Rec.oth HR5.out (p := ⟨bm, P, none⟩) (.float .f64 xq) hne) (p := ⟨bm, Q, none⟩) (.float .f64 xp) hne) (G.refl _).drew, ((g5.setCell (p := ⟨bm, P, none⟩) hwb (.float .f64 xq)).setCell (p := ⟨bm, Q, none⟩) hwb (.float .f64 xp)).drew⟩
              case measure => simp only [intOf]; omega
          · go_wp2_with fail
            go_roundw
            case rel => exact ⟨i + 2, ms, by go_num, by omega, HKp.out, HO5.out, HR5.out, g5⟩
            case measure => simp only [intOf]; omega
        · go_wp2_with fail
          go_roundw
          case rel => exact ⟨i + 2, ms, by go_num, by omega, HKp.out, HO5.out, HR5.out, g5⟩
          case measure => simp only [intOf]; omega
      · have hnz : decide ((0 : Int) < n) = false := decide_eq_false (by omega)
        have H4 : Hid (∀ w1 v, G w w1 → FSl w1 v ms → _) := fun w1 v g h => sum_c w1 v ms 1 (Or.inl rfl) (HTb.out.G g) h (fun b hb => HLT.out b (HKp.out.2.1 b hb)) (by rw [HKp.out.1, ← HN.out]; omega)
        go_wp2_with fail
        refine Calls.mono (P := Tryz.prog) (H4.out wr _ hG (FOwn.fsl HO.out)) ?_
        intro e w5 hs
        obtain ⟨y, c2, a2, rfl, g5, hy⟩ := hs
        obtain ⟨rfl, rfl⟩ := same_sums HKp.out HX.out hy
        clear H4 hy
        have HX2 : Hid (∀ w1, _) := fun w1 => samefloat_c w1 x (not_nan HX.out)
        have R5 : Hid (Rec w5 fb _) := Rec.G HRf.out g5
        have g05 := G.trans hG g5
        clear HRf HO hi
        have hlt := R5.out.lt
        have hSR5 := Rec.f2 (Rec.G R5.out (G.refl _))
        have hSR5_0 := hSR5.1
        have hSR5_1 := hSR5.2.1
        have hSR5_2 := hSR5.2.2.1
        have hSR5_3 := hSR5.2.2.2
        clear hSR5
        go_wp2_with fail
        clear hSR5_0 hSR5_1 hSR5_2 hSR5_3 hlt
        have g6 : G w5 (w5.alloc (.cells #[.int .i64 c, .int .i64 a2] 29)) := ((G.refl w5).alloc _)
        have R0 : Hid (Rec (w5.alloc (.cells #[.int .i64 c, .int .i64 a2] 29)) (w5.heap.size) [.int .i64 c, .int .i64 a2]) := by
          have h := Rec.new2 w5 (.int .i64 c) (.int .i64 a2) 29
          exact h
        have hz6 : (w5.alloc (.cells #[.int .i64 c, .int .i64 a2] 29)).heap.size = w5.heap.size + 1 := by simp
        generalize (w5.alloc (.cells #[.int .i64 c, .int .i64 a2] 29)) = w6 at *
        refine Calls.mono (P := Tryz.prog) (HX2.out w6) ?_
        rintro e w7 ⟨rfl, g7⟩
        have g57 := G.trans g6 g7
        have R7 : Hid (Rec w7 fb _) := Rec.G R5.out g57
        have g07 := G.trans g05 g57
        clear HX2 R0 R5 hz6 g5 g05 g6 g7 g57 HKp
        go_wp2_with fail
        refine Calls.mono (P := Tryz.prog) (HOf.out w7 g07) ?_
        intro e w8 hs
        obtain ⟨vo, co, ao, rfl, g8, ho⟩ := hs
        have R8 : Hid (Rec w8 fb _) := Rec.G R7.out g8
        have g08 := G.trans g07 g8
        clear R7 HOf
        by_cases hco : co = 0
        · subst hco
          have hfo : Fin l ∧ FSl w8 vo L ∧ o = true := by
            rcases ho with ⟨h1, -, ⟨h2, -, h3⟩ | ⟨-, h2, -⟩⟩ | ⟨i, h2, -⟩
            · exact ⟨h1, h3, h2⟩
            · omega
            · omega
          obtain ⟨hfin, hfo, rfl⟩ := hfo
          have HFO : Hid (FSl w8 vo L) := hfo
          have HFin : Hid (Fin l) := hfin
          have hT := HTl.out rfl
          have hfL : Fin L := fun b hb => (hT.fin b hb).2
          have hlL : ∀ b ∈ L, b < 2 ^ 64 := fun b hb => (hT.fin b hb).1
          have HCm : Hid (∀ w1, G w w1 → FSl w1 vo L → Calls Tryz.prog 18 #[vo, .slice pa n ca] w1 fun e w' => e = .returned (.tuple #[.int .i64 0, .agg #[.int .i64 0, .int .i64 0]]) ∧ G w1 w') := fun w1 g h => by
            have h2 := lists_cmp_c w1 vo (.slice pa n ca) L l (HTb.out.G g) h (by rw [HN.out]; exact FSl.G HV.out g) hlL HLT.out (by omega) (by rw [← HN.out]; omega) hfL HFin.out
            rw [hT.sum, Int.sub_self] at h2
            exact h2
          have HTl2 : Hid (Tells (l.map fz).sum L) := hT
          have HFO9 : Hid (FSl ((w8.setCell ⟨fb, 0, none⟩ (.int .i64 0)).setCell ⟨fb, 1, none⟩ (.int .i64 ao)) vo L) := FSl.flt HFO.out R8.out
          have R9 : Hid (Rec ((w8.setCell ⟨fb, 0, none⟩ (.int .i64 0)).setCell ⟨fb, 1, none⟩ (.int .i64 ao)) fb [.int .i64 0, .int .i64 ao]) := Rec.set2 R8.out
          have g09 : G w ((w8.setCell ⟨fb, 0, none⟩ (.int .i64 0)).setCell ⟨fb, 1, none⟩ (.int .i64 ao)) := Rec.g2 (b := fb) g08 hb3
          obtain ⟨po, cpo, rfl, -, -⟩ := id HFO.out
          have hlt := R8.out.lt
          have hSR8 := Rec.f2 (Rec.G R8.out (G.refl _))
          have hSR8_0 := hSR8.1
          have hSR8_1 := hSR8.2.1
          have hSR8_2 := hSR8.2.2.1
          have hSR8_3 := hSR8.2.2.2
          clear hSR8
          clear ho hfin hfo HFO HTl hT hfL hlL HFin HLT HX
          go_wp2_with fail
          clear hSR8_0 hSR8_1 hSR8_2 hSR8_3 hlt R8 g08
          generalize (w8.setCell ⟨fb, 0, none⟩ (.int .i64 0)).setCell ⟨fb, 1, none⟩ (.int .i64 ao) = w9 at *
          refine Calls.mono (P := Tryz.prog) (HCm.out w9 g09 HFO9.out) ?_
          rintro e w10 ⟨rfl, g10⟩
          have HFO10 : Hid (FSl ((w10.setCell ⟨fb, 0, none⟩ (.int .i64 0)).setCell ⟨fb, 1, none⟩ (.int .i64 0)) (.slice po L.length cpo) L) := FSl.flt (FSl.G HFO9.out g10) (Rec.G R9.out g10)
          have R10 : Hid (Rec w10 fb _) := Rec.G R9.out g10
          have R11 : Hid (Rec ((w10.setCell ⟨fb, 0, none⟩ (.int .i64 0)).setCell ⟨fb, 1, none⟩ (.int .i64 0)) fb [.int .i64 0, .int .i64 0]) := Rec.set2 R10.out
          have g11 : G w ((w10.setCell ⟨fb, 0, none⟩ (.int .i64 0)).setCell ⟨fb, 1, none⟩ (.int .i64 0)) := Rec.g2 (b := fb) (G.trans g09 g10) hb3
          have hlt := R10.out.lt
          have hSR10 := Rec.f2 (Rec.G R10.out (G.refl _))
          have hSR10_0 := hSR10.1
          have hSR10_1 := hSR10.2.1
          have hSR10_2 := hSR10.2.2.1
          have hSR10_3 := hSR10.2.2.2
          clear hSR10
          clear HCm HFO9 R9 g09
          go_wp2_with fail
          clear hSR10_0 hSR10_1 hSR10_2 hSR10_3 hlt R10 g10
          generalize (w10.setCell ⟨fb, 0, none⟩ (.int .i64 0)).setCell ⟨fb, 1, none⟩ (.int .i64 0) = w11 at *
          obtain ⟨N, hN⟩ : ∃ N, N = L.length := ⟨_, rfl⟩
          rw [← hN] at HFO10 hLl ⊢
          have HNL : Hid (N = L.length) := hN
          clear hN
          go_loopw [15] (fun vj wr => ∃ j : Nat, vj = .int .i64 ((j : Int) + 1) ∧ j ≤ N ∧ G w11 wr) (fun vj _ => N + 2 - (intOf vj).toNat)
          case atStart => exact ⟨0, rfl, by omega, G.refl _⟩
          case round =>
            obtain ⟨j, rfl, hj, hG2⟩ := hrel
            by_cases hjN : j + 1 < N
            · obtain ⟨po', cpo', epo, -, hro⟩ := HFO10.out
              injection epo with epo1 epo2 epo3
              subst epo1
              obtain ⟨bo, oo, rfl, hbo, ho1'⟩ := hro j (by rw [← HNL.out]; omega)
              obtain ⟨bo2, oo2, e2, -, ho2'⟩ := hro (j + 1) (by rw [← HNL.out]; omega)
              injection e2 with e2
              injection e2 with e4 e5
              subst e4; subst e5
              have ho1 := hG2.cell (p := ⟨bo, oo + j, none⟩) hbo ho1'
              have ho2 := hG2.cell (p := ⟨bo, oo + (j + 1), none⟩) hbo ho2'
              have hst := HTl2.out.steep.at j (by rw [← HNL.out]; exact hjN)
              have hmem : ∀ q, q < L.length → L.getD q 0 ∈ L := fun q hq => by rw [List.getD_eq_getElem?_getD, List.getElem?_eq_getElem hq]; exact List.getElem_mem _
              have hf1 := HTl2.out.fin _ (hmem j (by rw [← HNL.out]; omega))
              have hf2 := HTl2.out.fin _ (hmem (j + 1) (by rw [← HNL.out]; omega))
              have hsz := hG2.size
              have hbo2 : bo < wr.heap.size := by omega
              clear hro epo2 epo3 ho1' ho2' hmem
              generalize L.getD j 0 = y1 at *
              generalize L.getD (j + 1) 0 = y2 at *
              have hvb := (hv_v hst.1 (by omega)).2
              have HAb : Hid (∀ w1, _) := fun w1 => abs_c y2 w1 hf2.1
              have HUl : Hid (∀ w1, _) := fun w1 => ulp_fin_c y1 (fex y1) (y1 % 2 ^ 52) _ w1 hf1.1 rfl rfl hf1.2 rfl
              have hdv := half_word hst.1 hf1.2
              have hgt := not_above hst.2 (by omega)
              obtain ⟨ul, hul⟩ : ∃ ul, ul = nearV 11 52 1 ((max (fex y1) 1 : Nat) - 1075) := ⟨_, rfl⟩
              rw [← hul] at HUl hdv
              generalize hv (fex y1) = hh at *
              have hqu := fun (w : World) => run_float_arith (P := Tryz.prog) w .quo 26 .f64 ul 4611686018427387904 hh hdv
              clear hul hdv hst hf1 hf2 hvb
              generalize FT.rung y2 = ru at *
              go_wp2_with fail
              refine region_gw (by kernel_rfl) (by kernel_rfl) ?_
              intro W hW
              have hq3 := gw_cell (w := W) (a := ⟨bo, oo + j, none⟩) (x := .float .f64 y1) (by rw [hW]; first | (simp; done) | (simp; omega) | omega) (by rw [hW]; first | assumption | (simp [go_sem]; done) | (simp [*, go_sem]; done))
              have hq4 := gw_cell (w := W) (a := ⟨bo, oo + (j + 1), none⟩) (x := .float .f64 y2) (by rw [hW]; first | (simp; done) | (simp; omega) | omega) (by rw [hW]; first | assumption | (simp [go_sem]; done) | (simp [*, go_sem]; done))
              clear hW
              repeat (go_big_quiet_step ((first | (go_at_call 42; exact quiet_gw (HAb.out _)) | (go_at_call 43; exact quiet_gw (HUl.out _)))))
              refine wpQuiet_nil ?_
              clear hq3 hq4
              intro w12 hw12
              have hG3 := G.trans hG2 hw12
              clear hw12 ho1 ho2 hqu HAb HUl hbo hbo2 hsz
              go_wp2_with fail
              go_roundw
              case rel => exact ⟨j + 1, by go_num, by omega, hG3⟩
              case measure => simp only [intOf]; omega
            · have hjl : N ≤ j + 1 := by omega
              have R12 : Hid (Rec wr fb _) := Rec.G R11.out hG2
              have hSR12 := Rec.f2 (Rec.G R12.out (G.refl _))
              have hSR12_0 := hSR12.1
              have hSR12_1 := hSR12.2.1
              have hSR12_2 := hSR12.2.2.1
              have hSR12_3 := hSR12.2.2.2
              clear hSR12
              go_wp2_with fail
              go_ret
              exact ⟨rfl, G.trans g11 hG2⟩
        · have hnil : vo = .slice none 0 0 := by
            rcases ho with ⟨h1, -, ⟨-, h2, h3⟩ | ⟨-, -, h2⟩⟩ | ⟨i, -, -, h2, -⟩
            · exact absurd h2 hco
            · exact h2
            · exact h2
          subst hnil
          have hcz : (co == 0) = false := by simpa using hco
          have hlt := R8.out.lt
          clear ho hco
          have hSR8 := Rec.f2 (Rec.G R8.out (G.refl _))
          have hSR8_0 := hSR8.1
          have hSR8_1 := hSR8.2.1
          have hSR8_2 := hSR8.2.2.1
          have hSR8_3 := hSR8.2.2.2
          clear hSR8
          go_wp2_with fail
          go_ret
          exact ⟨rfl, Rec.g2 (b := fb) g08 hb3⟩
    · skip
      have H4 : Hid (∀ w1 v, G w w1 → FSl w1 v ms → _) := fun w1 v g h => sum_c w1 v ms 1 (Or.inl rfl) (HTb.out.G g) h (fun b hb => HLT.out b (HKp.out.2.1 b hb)) (by rw [HKp.out.1, ← HN.out]; omega)
      go_wp2_with fail
      refine Calls.mono (P := Tryz.prog) (H4.out wr _ hG (FOwn.fsl HO.out)) ?_
      intro e w5 hs
      obtain ⟨y, c2, a2, rfl, g5, hy⟩ := hs
      obtain ⟨rfl, rfl⟩ := same_sums HKp.out HX.out hy
      clear H4 hy
      have HX2 : Hid (∀ w1, _) := fun w1 => samefloat_c w1 x (not_nan HX.out)
      have R5 : Hid (Rec w5 fb _) := Rec.G HRf.out g5
      have g05 := G.trans hG g5
      clear HRf HO hi
      have hlt := R5.out.lt
      have hSR5 := Rec.f2 (Rec.G R5.out (G.refl _))
      have hSR5_0 := hSR5.1
      have hSR5_1 := hSR5.2.1
      have hSR5_2 := hSR5.2.2.1
      have hSR5_3 := hSR5.2.2.2
      clear hSR5
      go_wp2_with fail
      clear hSR5_0 hSR5_1 hSR5_2 hSR5_3 hlt
      have g6 : G w5 (w5.alloc (.cells #[.int .i64 c, .int .i64 a2] 29)) := ((G.refl w5).alloc _)
      have R0 : Hid (Rec (w5.alloc (.cells #[.int .i64 c, .int .i64 a2] 29)) (w5.heap.size) [.int .i64 c, .int .i64 a2]) := by
        have h := Rec.new2 w5 (.int .i64 c) (.int .i64 a2) 29
        exact h
      have hz6 : (w5.alloc (.cells #[.int .i64 c, .int .i64 a2] 29)).heap.size = w5.heap.size + 1 := by simp
      generalize (w5.alloc (.cells #[.int .i64 c, .int .i64 a2] 29)) = w6 at *
      refine Calls.mono (P := Tryz.prog) (HX2.out w6) ?_
      rintro e w7 ⟨rfl, g7⟩
      have g57 := G.trans g6 g7
      have R7 : Hid (Rec w7 fb _) := Rec.G R5.out g57
      have g07 := G.trans g05 g57
      clear HX2 R0 R5 hz6 g5 g05 g6 g7 g57 HKp
      go_wp2_with fail
      refine Calls.mono (P := Tryz.prog) (HOf.out w7 g07) ?_
      intro e w8 hs
      obtain ⟨vo, co, ao, rfl, g8, ho⟩ := hs
      have R8 : Hid (Rec w8 fb _) := Rec.G R7.out g8
      have g08 := G.trans g07 g8
      clear R7 HOf
      by_cases hco : co = 0
      · subst hco
        have hfo : Fin l ∧ FSl w8 vo L ∧ o = true := by
          rcases ho with ⟨h1, -, ⟨h2, -, h3⟩ | ⟨-, h2, -⟩⟩ | ⟨i, h2, -⟩
          · exact ⟨h1, h3, h2⟩
          · omega
          · omega
        obtain ⟨hfin, hfo, rfl⟩ := hfo
        have HFO : Hid (FSl w8 vo L) := hfo
        have HFin : Hid (Fin l) := hfin
        have hT := HTl.out rfl
        have hfL : Fin L := fun b hb => (hT.fin b hb).2
        have hlL : ∀ b ∈ L, b < 2 ^ 64 := fun b hb => (hT.fin b hb).1
        have HCm : Hid (∀ w1, G w w1 → FSl w1 vo L → Calls Tryz.prog 18 #[vo, .slice pa n ca] w1 fun e w' => e = .returned (.tuple #[.int .i64 0, .agg #[.int .i64 0, .int .i64 0]]) ∧ G w1 w') := fun w1 g h => by
          have h2 := lists_cmp_c w1 vo (.slice pa n ca) L l (HTb.out.G g) h (by rw [HN.out]; exact FSl.G HV.out g) hlL HLT.out (by omega) (by rw [← HN.out]; omega) hfL HFin.out
          rw [hT.sum, Int.sub_self] at h2
          exact h2
        have HTl2 : Hid (Tells (l.map fz).sum L) := hT
        have HFO9 : Hid (FSl ((w8.setCell ⟨fb, 0, none⟩ (.int .i64 0)).setCell ⟨fb, 1, none⟩ (.int .i64 ao)) vo L) := FSl.flt HFO.out R8.out
        have R9 : Hid (Rec ((w8.setCell ⟨fb, 0, none⟩ (.int .i64 0)).setCell ⟨fb, 1, none⟩ (.int .i64 ao)) fb [.int .i64 0, .int .i64 ao]) := Rec.set2 R8.out
        have g09 : G w ((w8.setCell ⟨fb, 0, none⟩ (.int .i64 0)).setCell ⟨fb, 1, none⟩ (.int .i64 ao)) := Rec.g2 (b := fb) g08 hb3
        obtain ⟨po, cpo, rfl, -, -⟩ := id HFO.out
        have hlt := R8.out.lt
        have hSR8 := Rec.f2 (Rec.G R8.out (G.refl _))
        have hSR8_0 := hSR8.1
        have hSR8_1 := hSR8.2.1
        have hSR8_2 := hSR8.2.2.1
        have hSR8_3 := hSR8.2.2.2
        clear hSR8
        clear ho hfin hfo HFO HTl hT hfL hlL HFin HLT HX
        go_wp2_with fail
        clear hSR8_0 hSR8_1 hSR8_2 hSR8_3 hlt R8 g08
        generalize (w8.setCell ⟨fb, 0, none⟩ (.int .i64 0)).setCell ⟨fb, 1, none⟩ (.int .i64 ao) = w9 at *
        refine Calls.mono (P := Tryz.prog) (HCm.out w9 g09 HFO9.out) ?_
        rintro e w10 ⟨rfl, g10⟩
        have HFO10 : Hid (FSl ((w10.setCell ⟨fb, 0, none⟩ (.int .i64 0)).setCell ⟨fb, 1, none⟩ (.int .i64 0)) (.slice po L.length cpo) L) := FSl.flt (FSl.G HFO9.out g10) (Rec.G R9.out g10)
        have R10 : Hid (Rec w10 fb _) := Rec.G R9.out g10
        have R11 : Hid (Rec ((w10.setCell ⟨fb, 0, none⟩ (.int .i64 0)).setCell ⟨fb, 1, none⟩ (.int .i64 0)) fb [.int .i64 0, .int .i64 0]) := Rec.set2 R10.out
        have g11 : G w ((w10.setCell ⟨fb, 0, none⟩ (.int .i64 0)).setCell ⟨fb, 1, none⟩ (.int .i64 0)) := Rec.g2 (b := fb) (G.trans g09 g10) hb3
        have hlt := R10.out.lt
        have hSR10 := Rec.f2 (Rec.G R10.out (G.refl _))
        have hSR10_0 := hSR10.1
        have hSR10_1 := hSR10.2.1
        have hSR10_2 := hSR10.2.2.1
        have hSR10_3 := hSR10.2.2.2
        clear hSR10
        clear HCm HFO9 R9 g09
        go_wp2_with fail
        clear hSR10_0 hSR10_1 hSR10_2 hSR10_3 hlt R10 g10
        generalize (w10.setCell ⟨fb, 0, none⟩ (.int .i64 0)).setCell ⟨fb, 1, none⟩ (.int .i64 0) = w11 at *
        obtain ⟨N, hN⟩ : ∃ N, N = L.length := ⟨_, rfl⟩
        rw [← hN] at HFO10 hLl ⊢
        have HNL : Hid (N = L.length) := hN
        clear hN
        go_loopw [15] (fun vj wr => ∃ j : Nat, vj = .int .i64 ((j : Int) + 1) ∧ j ≤ N ∧ G w11 wr) (fun vj _ => N + 2 - (intOf vj).toNat)
        case atStart => exact ⟨0, rfl, by omega, G.refl _⟩
        case round =>
          obtain ⟨j, rfl, hj, hG2⟩ := hrel
          by_cases hjN : j + 1 < N
          · obtain ⟨po', cpo', epo, -, hro⟩ := HFO10.out
            injection epo with epo1 epo2 epo3
            subst epo1
            obtain ⟨bo, oo, rfl, hbo, ho1'⟩ := hro j (by rw [← HNL.out]; omega)
            obtain ⟨bo2, oo2, e2, -, ho2'⟩ := hro (j + 1) (by rw [← HNL.out]; omega)
            injection e2 with e2
            injection e2 with e4 e5
            subst e4; subst e5
            have ho1 := hG2.cell (p := ⟨bo, oo + j, none⟩) hbo ho1'
            have ho2 := hG2.cell (p := ⟨bo, oo + (j + 1), none⟩) hbo ho2'
            have hst := HTl2.out.steep.at j (by rw [← HNL.out]; exact hjN)
            have hmem : ∀ q, q < L.length → L.getD q 0 ∈ L := fun q hq => by rw [List.getD_eq_getElem?_getD, List.getElem?_eq_getElem hq]; exact List.getElem_mem _
            have hf1 := HTl2.out.fin _ (hmem j (by rw [← HNL.out]; omega))
            have hf2 := HTl2.out.fin _ (hmem (j + 1) (by rw [← HNL.out]; omega))
            have hsz := hG2.size
            have hbo2 : bo < wr.heap.size := by omega
            clear hro epo2 epo3 ho1' ho2' hmem
            generalize L.getD j 0 = y1 at *
            generalize L.getD (j + 1) 0 = y2 at *
            have hvb := (hv_v hst.1 (by omega)).2
            have HAb : Hid (∀ w1, _) := fun w1 => abs_c y2 w1 hf2.1
            have HUl : Hid (∀ w1, _) := fun w1 => ulp_fin_c y1 (fex y1) (y1 % 2 ^ 52) _ w1 hf1.1 rfl rfl hf1.2 rfl
            have hdv := half_word hst.1 hf1.2
            have hgt := not_above hst.2 (by omega)
            obtain ⟨ul, hul⟩ : ∃ ul, ul = nearV 11 52 1 ((max (fex y1) 1 : Nat) - 1075) := ⟨_, rfl⟩
            rw [← hul] at HUl hdv
            generalize hv (fex y1) = hh at *
            have hqu := fun (w : World) => run_float_arith (P := Tryz.prog) w .quo 26 .f64 ul 4611686018427387904 hh hdv
            clear hul hdv hst hf1 hf2 hvb
            generalize FT.rung y2 = ru at *
            go_wp2_with fail
            refine region_gw (by kernel_rfl) (by kernel_rfl) ?_
            intro W hW
            have hq5 := gw_cell (w := W) (a := ⟨bo, oo + j, none⟩) (x := .float .f64 y1) (by rw [hW]; first | (simp; done) | (simp; omega) | omega) (by rw [hW]; first | assumption | (simp [go_sem]; done) | (simp [*, go_sem]; done))
            have hq6 := gw_cell (w := W) (a := ⟨bo, oo + (j + 1), none⟩) (x := .float .f64 y2) (by rw [hW]; first | (simp; done) | (simp; omega) | omega) (by rw [hW]; first | assumption | (simp [go_sem]; done) | (simp [*, go_sem]; done))
            clear hW
            repeat (go_big_quiet_step ((first | (go_at_call 42; exact quiet_gw (HAb.out _)) | (go_at_call 43; exact quiet_gw (HUl.out _)))))
            refine wpQuiet_nil ?_
            clear hq5 hq6
            intro w12 hw12
            have hG3 := G.trans hG2 hw12
            clear hw12 ho1 ho2 hqu HAb HUl hbo hbo2 hsz
            go_wp2_with fail
            go_roundw
            case rel => exact ⟨j + 1, by go_num, by omega, hG3⟩
            case measure => simp only [intOf]; omega
          · have hjl : N ≤ j + 1 := by omega
            have R12 : Hid (Rec wr fb _) := Rec.G R11.out hG2
            have hSR12 := Rec.f2 (Rec.G R12.out (G.refl _))
            have hSR12_0 := hSR12.1
            have hSR12_1 := hSR12.2.1
            have hSR12_2 := hSR12.2.2.1
            have hSR12_3 := hSR12.2.2.2
            clear hSR12
            go_wp2_with fail
            go_ret
            exact ⟨rfl, G.trans g11 hG2⟩
      · have hnil : vo = .slice none 0 0 := by
          rcases ho with ⟨h1, -, ⟨-, h2, h3⟩ | ⟨-, -, h2⟩⟩ | ⟨i, -, -, h2, -⟩
          · exact absurd h2 hco
          · exact h2
          · exact h2
        subst hnil
        have hcz : (co == 0) = false := by simpa using hco
        have hlt := R8.out.lt
        clear ho hco
        have hSR8 := Rec.f2 (Rec.G R8.out (G.refl _))
        have hSR8_0 := hSR8.1
        have hSR8_1 := hSR8.2.1
        have hSR8_2 := hSR8.2.2.1
        have hSR8_3 := hSR8.2.2.2
        clear hSR8
        go_wp2_with fail
        go_ret
        exact ⟨rfl, Rec.g2 (b := fb) g08 hb3⟩
end Go.Proofs.YtielcpkcfpbanacGreatDoor.EN
