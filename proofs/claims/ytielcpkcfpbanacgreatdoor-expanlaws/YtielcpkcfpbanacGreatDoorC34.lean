/- What is proved here: contracts of package expan: front, over this seat's translation.
What is proved here: contracts of package expan: whole, Of, over this seat's translation.
What is proved here: contracts of package expan: Sum, Cmp, over this seat's translation.
What is proved here: contracts of package expan: the pair of a number, over this seat's translation.
What is proved here: contracts of package expan: what a pair tells, and pairs reckoned with, over this seat's translation.
What is proved here: contracts of package expan: quotients of pairs, over this seat's translation.
What is proved here: the closed fact on sums told by several floats, over this seat's translation.
What is proved here: the closed fact on sums told by several floats holds, over this seat's translation. -/
import Derived.Test.YtielcpkcfpbanacGreatDoorC33
import Derived.Test.YtielcpkcfpbanacGreatDoorC33
import Derived.Laws.IdiomCopy
namespace Go.Proofs.YtielcpkcfpbanacGreatDoor.EN
open Go.ChangeShapes Go.WideShapes Go.ChangeAt Go.RowKit

def lenOf : Value → Nat
  | .slice _ n _ => n
  | _ => 0
/-- A call hands back the floats of a list, or nothing. -/
def RetFront (w : World) (L : List Nat) (o : Bool) (e : Ending) (w' : World) : Prop := ∃ v, e = .returned (.tuple #[v, .bool o]) ∧ G w w' ∧ ((o = true ∧ FSl w' v L) ∨ (o = false ∧ v = .slice none 0 0))

theorem fr_len {m : Nat} {x : Rat} {L : List Nat} {o : Bool} (h : Fr m x L o) : L.length ≤ m := by
  induction h with
  | zero => simp
  | most => simp
  | bad => simp
  | step k v l o h0 hq h1 h2 h ih => simpa using ih

set_option maxRecDepth 10000 in
theorem front_c (w : World) (v : Value) (x : Rat) (m : Nat) (L : List Nat) (o : Bool) (hT : Tab w) (hL : L.length ≤ 100000) (h : QIs w v x) (hF : Fr m x L o) :
    Calls Tryz.prog 95 #[v, .int .i64 (m : Int)] w (RetFront w L o) := by
  have HQ0 : Hid (QIs w v x) := h
  obtain ⟨a, k, c, a', k', c', rfl, -, -⟩ := h
  generalize decide (x.num < 0) = t at *
  have HTb : Hid (Tab w) := hT
  have HF : Hid _ := hF
  clear hT hF
  go_enter Tryz.func95, Tryz.ntmps95
  go_wp2_with fail
  have g0 : G w (w.alloc (.cells #[.bool t, .slice a k c, .slice a' k' c'] 96)) := ((G.refl w).alloc _)
  have R0 : Hid (Rec (w.alloc (.cells #[.bool t, .slice a k c, .slice a' k' c'] 96)) (w.heap.size) [.bool t, .slice a k c, .slice a' k' c']) := by
    have h := Rec.new3 w (.bool t) (.slice a k c) (.slice a' k' c') 96
    exact h
  have hz0 : (w.alloc (.cells #[.bool t, .slice a k c, .slice a' k' c'] 96)).heap.size = w.heap.size + 1 := by simp
  generalize (w.alloc (.cells #[.bool t, .slice a k c, .slice a' k' c'] 96)) = w0 at *
  go_loopw [4] (fun vl wr => ∃ (pre rest : List Nat) (j : Nat) (y : Rat) (t : Bool) (a : Option Addr) (k c : Nat) (a' : Option Addr) (k' c' : Nat), L = pre ++ rest ∧ Fr j y rest o ∧ j + pre.length = m ∧ FOwn wr (w.heap.size + 1) vl pre ∧
      Rec wr w.heap.size [.bool t, .slice a k c, .slice a' k' c'] ∧ QIs wr (.agg #[.bool t, .slice a k c, .slice a' k' c']) y ∧ G w wr ∧ w.heap.size + 1 ≤ wr.heap.size) (fun vl _ => L.length + 1 - lenOf vl)
  case atStart => exact ⟨[], L, m, x, t, a, k, c, a', k', c', rfl, HF.out, rfl, fown_nil _ _, R0.out, QIs.G HQ0.out g0, g0, by omega⟩
  case round =>
    obtain ⟨pre, rest, j, y, t, a, k, c, a', k', c', hLe, hfr, hj, hown, hrec, hq, hG, hsz⟩ := hrel
    clear R0 g0 hz0 HQ0
    obtain ⟨pl, cl, rfl⟩ := hown.len
    have HO : Hid (FOwn _ _ _ _) := hown
    have HRc : Hid (Rec _ _ _) := hrec
    have HQ : Hid (QIs _ _ _) := hq
    have HSG : Hid (∀ w1, G wr w1 → Calls Tryz.prog 121 #[.agg #[.bool t, .slice a k c, .slice a' k' c']] w1 fun e w' => e = .returned (.int .i64 y.num.sign) ∧ G w1 w') := fun w1 g => qsign_c w1 _ y (QIs.G HQ.out g)
    have HLe : Hid (L = pre ++ rest) := hLe
    have hpl : pre.length ≤ L.length := by rw [hLe]; simp
    clear hown hrec hq hLe
    by_cases hy : y = 0
    · have ho : rest = [] ∧ o = true := by
        cases hfr with
        | zero => exact ⟨rfl, rfl⟩
        | most => exact ⟨rfl, rfl⟩
        | bad _ _ h0 => exact absurd hy h0
        | step _ _ _ _ h0 => exact absurd hy h0
      obtain ⟨rfl, rfl⟩ := ho
      subst hy
      rw [show (0 : Rat).num.sign = 0 from rfl] at HSG
      clear hfr hj
      have hSHRc := Rec.f3 (Rec.G HRc.out (G.refl _))
      have hSHRc_0 := hSHRc.1
      have hSHRc_1 := hSHRc.2.1
      have hSHRc_2 := hSHRc.2.2.1
      have hSHRc_3 := hSHRc.2.2.2.1
      have hSHRc_4 := hSHRc.2.2.2.2.1
      have hSHRc_5 := hSHRc.2.2.2.2.2
      clear hSHRc
      go_wp2_with fail
      refine Calls.mono (P := Tryz.prog) (HSG.out wr (G.refl _)) ?_
      rintro e1 w1 ⟨rfl, g1⟩
      go_wp2_with fail
      refine bodyPost_ret (v := .tuple #[.slice pl pre.length cl, .bool true]) (by simp [results, Tryz.results95, go_sem, *]) rfl ?_
      refine ⟨_, rfl, G.trans hG g1, Or.inl ⟨rfl, ?_⟩⟩
      have h2 := FSl.G (FOwn.fsl HO.out) g1
      rw [HLe.out, List.append_nil]
      exact h2
    · have hs : (y.num.sign != 0) = true := by
        rw [bne, sign_zero_iff]
        simpa using hy
      generalize y.num.sign = s at *
      by_cases hjm : j = 0
      · have ho : rest = [] ∧ o = true := by
          subst hjm
          cases hfr with
          | zero => exact ⟨rfl, rfl⟩
          | most => exact ⟨rfl, rfl⟩
        obtain ⟨rfl, rfl⟩ := ho
        have hlim : decide (pre.length < m) = false := by simp; omega
        clear hfr hj hjm
        have hSHRc := Rec.f3 (Rec.G HRc.out (G.refl _))
        have hSHRc_0 := hSHRc.1
        have hSHRc_1 := hSHRc.2.1
        have hSHRc_2 := hSHRc.2.2.1
        have hSHRc_3 := hSHRc.2.2.2.1
        have hSHRc_4 := hSHRc.2.2.2.2.1
        have hSHRc_5 := hSHRc.2.2.2.2.2
        clear hSHRc
        go_wp2_with fail
        refine Calls.mono (P := Tryz.prog) (HSG.out wr (G.refl _)) ?_
        rintro e1 w1 ⟨rfl, g1⟩
        go_wp2_with fail
        refine bodyPost_ret (v := .tuple #[.slice pl pre.length cl, .bool true]) (by simp [results, Tryz.results95, go_sem, *]) rfl ?_
        refine ⟨_, rfl, G.trans hG g1, Or.inl ⟨rfl, ?_⟩⟩
        have h2 := FSl.G (FOwn.fsl HO.out) g1
        rw [HLe.out, List.append_nil]
        exact h2
      · have hlim : decide (pre.length < m) = true := by simp; omega
        have hqb : QB y 80 := by
          cases hfr with
          | zero => exact absurd rfl hy
          | most => exact absurd rfl hjm
          | bad _ _ _ hq => exact hq
          | step _ _ _ _ _ hq => exact hq
        have HFl : Hid (∀ w1, G wr w1 → Calls Tryz.prog 106 #[.agg #[.bool t, .slice a k c, .slice a' k' c'], .int .i64 1] w1 fun r w' => r = .returned (.tuple #[.float .f64 (nR y), .int .i64 0]) ∧ G w1 w') := fun w1 g => float_c w1 _ y 1 80 (by omega) (by omega) (Or.inl rfl) (QIs.G HQ.out g) hy hqb
        have hlt : nR y < 2 ^ 64 := FT.wrd_lt _ _ (by have := rV_le hy; omega)
        by_cases hnan : fex (nR y) = 2047
        · have ho : rest = [] ∧ o = false := by
            cases hfr with
            | zero => exact absurd rfl hy
            | most => exact absurd rfl hjm
            | bad => exact ⟨rfl, rfl⟩
            | step _ _ _ _ _ _ h1 => omega
          obtain ⟨rfl, rfl⟩ := ho
          have HOf : Hid (∀ w1, G wr w1 → _) := fun w1 (_ : G wr w1) => of_nan_c w1 _ hlt hnan
          generalize nR y = b at *
          clear hfr hj hjm hqb hlt hnan hy
          have hSHRc := Rec.f3 (Rec.G HRc.out (G.refl _))
          have hSHRc_0 := hSHRc.1
          have hSHRc_1 := hSHRc.2.1
          have hSHRc_2 := hSHRc.2.2.1
          have hSHRc_3 := hSHRc.2.2.2.1
          have hSHRc_4 := hSHRc.2.2.2.2.1
          have hSHRc_5 := hSHRc.2.2.2.2.2
          clear hSHRc
          go_wp2_with fail
          refine Calls.mono (P := Tryz.prog) (HSG.out wr (G.refl _)) ?_
          rintro e1 w1 ⟨rfl, g1⟩
          clear hSHRc_0 hSHRc_1 hSHRc_2 hSHRc_3 hSHRc_4 hSHRc_5
          have hSHRc := Rec.f3 (Rec.G HRc.out (g1))
          have hSHRc_0 := hSHRc.1
          have hSHRc_1 := hSHRc.2.1
          have hSHRc_2 := hSHRc.2.2.1
          have hSHRc_3 := hSHRc.2.2.2.1
          have hSHRc_4 := hSHRc.2.2.2.2.1
          have hSHRc_5 := hSHRc.2.2.2.2.2
          clear hSHRc
          go_wp2_with fail
          refine Calls.mono (P := Tryz.prog) (HFl.out w1 g1) ?_
          rintro e1 w2 ⟨rfl, g2⟩
          clear hSHRc_0 hSHRc_1 hSHRc_2 hSHRc_3 hSHRc_4 hSHRc_5
          go_wp2_with fail
          refine Calls.mono (P := Tryz.prog) (HOf.out w2 (G.trans g1 g2)) ?_
          intro e1 w3 hs3
          obtain ⟨u, rfl, g3, hu⟩ := hs3
          have HU : Hid (QIs w3 u _) := hu
          obtain ⟨a8, k8, c8, a9, k9, c9, rfl, -, -⟩ := hu
          generalize decide ((0 : Rat).num < 0) = t9 at *
          go_wp2_with fail
          refine bodyPost_ret (v := .tuple #[.slice none 0 0, .bool false]) (by simp [results, Tryz.results95, go_sem, *]) rfl ?_
          exact ⟨_, rfl, (G.trans hG (G.trans g1 (G.trans g2 g3))).alloc _, Or.inr ⟨rfl, rfl⟩⟩
        · have hfin : fex (nR y) < 2047 := by
            have : fex (nR y) < 2048 := Nat.mod_lt _ (by omega)
            omega
          by_cases hz0 : FQ (nR y) = 0
          · have ho : rest = [] ∧ o = false := by
              cases hfr with
              | zero => exact absurd rfl hy
              | most => exact absurd rfl hjm
              | bad => exact ⟨rfl, rfl⟩
              | step _ _ _ _ _ _ _ h2 => exact absurd hz0 h2
            obtain ⟨rfl, rfl⟩ := ho
            have HOf : Hid (∀ w1, G wr w1 → Calls Tryz.prog 94 #[.float .f64 (nR y)] w1 (RetQE w1 0 0)) := fun w1 g => by
              have h := of_c w1 _ (HTb.out.G (G.trans hG g)) hlt hfin
              rw [hz0] at h
              exact h
            generalize nR y = b at *
            clear hfr hj hjm hqb hlt hnan hfin hz0 hy
            have hSHRc := Rec.f3 (Rec.G HRc.out (G.refl _))
            have hSHRc_0 := hSHRc.1
            have hSHRc_1 := hSHRc.2.1
            have hSHRc_2 := hSHRc.2.2.1
            have hSHRc_3 := hSHRc.2.2.2.1
            have hSHRc_4 := hSHRc.2.2.2.2.1
            have hSHRc_5 := hSHRc.2.2.2.2.2
            clear hSHRc
            go_wp2_with fail
            refine Calls.mono (P := Tryz.prog) (HSG.out wr (G.refl _)) ?_
            rintro e1 w1 ⟨rfl, g1⟩
            clear hSHRc_0 hSHRc_1 hSHRc_2 hSHRc_3 hSHRc_4 hSHRc_5
            have hSHRc := Rec.f3 (Rec.G HRc.out (g1))
            have hSHRc_0 := hSHRc.1
            have hSHRc_1 := hSHRc.2.1
            have hSHRc_2 := hSHRc.2.2.1
            have hSHRc_3 := hSHRc.2.2.2.1
            have hSHRc_4 := hSHRc.2.2.2.2.1
            have hSHRc_5 := hSHRc.2.2.2.2.2
            clear hSHRc
            go_wp2_with fail
            refine Calls.mono (P := Tryz.prog) (HFl.out w1 g1) ?_
            rintro e1 w2 ⟨rfl, g2⟩
            clear hSHRc_0 hSHRc_1 hSHRc_2 hSHRc_3 hSHRc_4 hSHRc_5
            go_wp2_with fail
            refine Calls.mono (P := Tryz.prog) (HOf.out w2 (G.trans g1 g2)) ?_
            intro e1 w3 hs3
            obtain ⟨u, rfl, g3, hu⟩ := hs3
            have HU : Hid (QIs w3 u _) := hu
            obtain ⟨a8, k8, c8, a9, k9, c9, rfl, -, -⟩ := hu
            have HSG2 : Hid (∀ w1, G w3 w1 → _) := fun w1 g => qsign_c w1 _ 0 (QIs.G HU.out g)
            rw [show (0 : Rat).num.sign = 0 from rfl] at HSG2
            generalize decide ((0 : Rat).num < 0) = t9 at *
            go_wp2_with fail
            have g4 : G w3 (w3.alloc (.cells #[.bool t9, .slice a8 k8 c8, .slice a9 k9 c9] 96)) := ((G.refl w3).alloc _)
            have R0 : Hid (Rec (w3.alloc (.cells #[.bool t9, .slice a8 k8 c8, .slice a9 k9 c9] 96)) (w3.heap.size) [.bool t9, .slice a8 k8 c8, .slice a9 k9 c9]) := by
              have h := Rec.new3 w3 (.bool t9) (.slice a8 k8 c8) (.slice a9 k9 c9) 96
              exact h
            have hz4 : (w3.alloc (.cells #[.bool t9, .slice a8 k8 c8, .slice a9 k9 c9] 96)).heap.size = w3.heap.size + 1 := by simp
            generalize (w3.alloc (.cells #[.bool t9, .slice a8 k8 c8, .slice a9 k9 c9] 96)) = w4 at *
            refine Calls.mono (P := Tryz.prog) (HSG2.out w4 g4) ?_
            rintro e1 w5 ⟨rfl, g5⟩
            go_wp2_with fail
            refine bodyPost_ret (v := .tuple #[.slice none 0 0, .bool false]) (by simp [results, Tryz.results95, go_sem, *]) rfl ?_
            exact ⟨_, rfl, G.trans hG (G.trans g1 (G.trans g2 (G.trans g3 (G.trans g4 g5)))), Or.inr ⟨rfl, rfl⟩⟩
          · obtain ⟨j', rest', hj', hre, hfr'⟩ : ∃ j' rest', j = j' + 1 ∧ rest = nR y :: rest' ∧ Fr j' (y - FQ (nR y)) rest' o := by
              cases hfr with
              | zero => exact absurd rfl hy
              | most => exact absurd rfl hjm
              | bad _ _ _ _ h => rcases h with h | h; omega; exact absurd h hz0
              | step k _ l _ _ _ _ _ h => exact ⟨k, l, rfl, rfl, h⟩
            have HOf : Hid (∀ w1, G wr w1 → Calls Tryz.prog 94 #[.float .f64 (nR y)] w1 (RetQE w1 (FQ (nR y)) 0)) := fun w1 g => of_c w1 _ (HTb.out.G (G.trans hG g)) hlt hfin
            have HSub : Hid (∀ w1 v u, G w w1 → QIs w1 v y → QIs w1 u (FQ (nR y)) → Calls Tryz.prog 73 #[v, u] w1 (RetQ w1 (y - FQ (nR y)))) := fun w1 v u g h1 h2 => qsub_c w1 v u _ _ 80 (by omega) (by omega) (HTb.out.G g) h1 h2 hqb (qb_fq hfin)
            have hs2 : ((FQ (nR y)).num.sign == 0) = false := by
              rw [sign_zero_iff]
              exact decide_eq_false hz0
            have HFr : Hid _ := hfr'
            have HRe : Hid (rest = nR y :: rest') := hre
            have HJ : Hid (j = j' + 1) := hj'
            have HJm : Hid (j + pre.length = m) := hj
            generalize y - FQ (nR y) = y2 at *
            generalize FQ (nR y) = xb at *
            generalize nR y = b at *
            clear hfr hj hjm hqb hlt hnan hfin hz0 hy hfr' hre hj'
            have hSHRc := Rec.f3 (Rec.G HRc.out (G.refl _))
            have hSHRc_0 := hSHRc.1
            have hSHRc_1 := hSHRc.2.1
            have hSHRc_2 := hSHRc.2.2.1
            have hSHRc_3 := hSHRc.2.2.2.1
            have hSHRc_4 := hSHRc.2.2.2.2.1
            have hSHRc_5 := hSHRc.2.2.2.2.2
            clear hSHRc
            go_wp2_with fail
            refine Calls.mono (P := Tryz.prog) (HSG.out wr (G.refl _)) ?_
            rintro e1 w1 ⟨rfl, g1⟩
            clear hSHRc_0 hSHRc_1 hSHRc_2 hSHRc_3 hSHRc_4 hSHRc_5
            have hSHRc := Rec.f3 (Rec.G HRc.out (g1))
            have hSHRc_0 := hSHRc.1
            have hSHRc_1 := hSHRc.2.1
            have hSHRc_2 := hSHRc.2.2.1
            have hSHRc_3 := hSHRc.2.2.2.1
            have hSHRc_4 := hSHRc.2.2.2.2.1
            have hSHRc_5 := hSHRc.2.2.2.2.2
            clear hSHRc
            go_wp2_with fail
            refine Calls.mono (P := Tryz.prog) (HFl.out w1 g1) ?_
            rintro e1 w2 ⟨rfl, g2⟩
            clear hSHRc_0 hSHRc_1 hSHRc_2 hSHRc_3 hSHRc_4 hSHRc_5
            go_wp2_with fail
            refine Calls.mono (P := Tryz.prog) (HOf.out w2 (G.trans g1 g2)) ?_
            intro e1 w3 hs3
            obtain ⟨u, rfl, g3, hu⟩ := hs3
            have HU : Hid (QIs w3 u _) := hu
            obtain ⟨a8, k8, c8, a9, k9, c9, rfl, -, -⟩ := hu
            have HSG2 : Hid (∀ w1, G w3 w1 → _) := fun w1 g => qsign_c w1 _ xb (QIs.G HU.out g)
            generalize decide (xb.num < 0) = t9 at *
            generalize xb.num.sign = s2 at *
            go_wp2_with fail
            have g4 : G w3 (w3.alloc (.cells #[.bool t9, .slice a8 k8 c8, .slice a9 k9 c9] 96)) := ((G.refl w3).alloc _)
            have R0 : Hid (Rec (w3.alloc (.cells #[.bool t9, .slice a8 k8 c8, .slice a9 k9 c9] 96)) (w3.heap.size) [.bool t9, .slice a8 k8 c8, .slice a9 k9 c9]) := by
              have h := Rec.new3 w3 (.bool t9) (.slice a8 k8 c8) (.slice a9 k9 c9) 96
              exact h
            have hz4 : (w3.alloc (.cells #[.bool t9, .slice a8 k8 c8, .slice a9 k9 c9] 96)).heap.size = w3.heap.size + 1 := by simp
            generalize (w3.alloc (.cells #[.bool t9, .slice a8 k8 c8, .slice a9 k9 c9] 96)) = w4 at *
            refine Calls.mono (P := Tryz.prog) (HSG2.out w4 g4) ?_
            rintro e1 w5 ⟨rfl, g5⟩
            have gr3 := G.trans g1 (G.trans g2 g3)
            have gr5 := G.trans gr3 (G.trans g4 g5)
            have gr5' : G wr (w5.alloc (.cells #[.float .f64 b] 26)) := gr5.alloc _
            have hsz5 := gr5'.size
            have hsz3 := gr3.size
            obtain ⟨v', w6, hrun, hown6, honto⟩ := app_own _ (w.heap.size + 1) (.slice pl pre.length cl) pre [b] (FOwn.G HO.out gr5') (by omega) ⟨w5.heap.size, 0, none⟩ 1 1 rfl (by
              intro i hi
              obtain rfl : i = 0 := by simpa using hi
              simp [Addr.add, go_sem]) (by simp only [List.length_cons, List.length_nil]; omega) (by simp)
            have HR6 : Hid (Rec w6 w.heap.size _) := honto.r _ _ (Rec.G HRc.out gr5') (FOwn.own HO.out (Or.inl (by omega)))
            have HB6 : Hid (Rec w6 w3.heap.size _) := honto.r _ _ (Rec.G R0.out (g5.alloc (.cells #[.float .f64 b] 26))) (FOwn.own HO.out (Or.inr hsz3))
            have HQ6 : Hid (QIs w6 _ y) := honto.q _ _ (QIs.G HQ.out gr5')
            have HU6 : Hid (QIs w6 _ xb) := honto.q _ _ (QIs.G HU.out (G.alloc (G.trans g4 g5) (.cells #[.float .f64 b] 26)))
            have g6 : G w w6 := honto.g w (by omega) (G.trans hG gr5')
            obtain ⟨pl', cl', rfl⟩ := hown6.len
            have HO6 : Hid (FOwn _ _ _ _) := hown6
            clear hown6 honto gr5 hsz5 hsz3 HO HSG HFl HOf HSG2 HTb hs hlim
            have hlt6 := HR6.out.lt
            have hlt8 := HB6.out.lt
            have hSHR6 := Rec.f3 (Rec.G HR6.out (G.refl _))
            have hSHR6_0 := hSHR6.1
            have hSHR6_1 := hSHR6.2.1
            have hSHR6_2 := hSHR6.2.2.1
            have hSHR6_3 := hSHR6.2.2.2.1
            have hSHR6_4 := hSHR6.2.2.2.2.1
            have hSHR6_5 := hSHR6.2.2.2.2.2
            clear hSHR6
            have hSHB6 := Rec.f3 (Rec.G HB6.out (G.refl _))
            have hSHB6_0 := hSHB6.1
            have hSHB6_1 := hSHB6.2.1
            have hSHB6_2 := hSHB6.2.2.1
            have hSHB6_3 := hSHB6.2.2.2.1
            have hSHB6_4 := hSHB6.2.2.2.2.1
            have hSHB6_5 := hSHB6.2.2.2.2.2
            clear hSHB6
            go_wp2_with (at_builtin; refine wpList_app _ rfl (.tmp 36) (.tmp 38) 22 rfl _ _ rfl rfl hrun ?_)
            clear hSHR6_0 hSHR6_1 hSHR6_2 hSHR6_3 hSHR6_4 hSHR6_5 hSHB6_0 hSHB6_1 hSHB6_2 hSHB6_3 hSHB6_4 hSHB6_5 hrun
            refine Calls.mono (P := Tryz.prog) (HSub.out w6 _ _ g6 HQ6.out HU6.out) ?_
            intro e1 w7 hs7
            obtain ⟨u, rfl, g7, hu7⟩ := hs7
            have HU7 : Hid (QIs w7 u y2) := hu7
            obtain ⟨d8, i8, e8, d9, i9, e9, rfl, -, -⟩ := hu7
            generalize decide (y2.num < 0) = t7 at *
            have HO7 : Hid (FOwn _ _ _ _) := FOwn.G HO6.out g7
            have hlt7 := (Rec.G HR6.out g7).lt
            have hSHR6 := Rec.f3 (Rec.G HR6.out (g7))
            have hSHR6_0 := hSHR6.1
            have hSHR6_1 := hSHR6.2.1
            have hSHR6_2 := hSHR6.2.2.1
            have hSHR6_3 := hSHR6.2.2.2.1
            have hSHR6_4 := hSHR6.2.2.2.2.1
            have hSHR6_5 := hSHR6.2.2.2.2.2
            clear hSHR6
            go_wp2_with fail
            have hoth : ∀ k2, k2 ≠ w.heap.size → (((w7.setCell ⟨w.heap.size, 0, none⟩ (.bool t7)).setCell ⟨w.heap.size, 1, none⟩ (.slice d8 i8 e8)).setCell ⟨w.heap.size, 2, none⟩ (.slice d9 i9 e9)).heap[k2]? = w7.heap[k2]? := fun k2 hk2 => (set_heap (by simpa using hk2)).trans ((set_heap (by simpa using hk2)).trans (set_heap (by simpa using hk2)))
            have hO9 : FOwn _ (w.heap.size + 1) (.slice pl' (pre ++ [b]).length cl') (pre ++ [b]) := FOwn.oth HO7.out (FOwn.own HO7.out (Or.inl (by omega))) hoth
            rw [show (pre ++ [b]).length = pre.length + 1 from by simp] at hO9
            have hll : pre.length + 1 ≤ L.length := by rw [HLe.out, HRe.out]; simp
            clear hoth
            go_roundw
            case rel => exact ⟨pre ++ [b], rest', j', y2, t7, d8, i8, e8, d9, i9, e9, by rw [HLe.out, HRe.out]; simp, HFr.out, by have := HJ.out; have := HJm.out; simp; omega, hO9, Rec.set3 (Rec.G HR6.out g7), QIs.set3 HU7.out (Rec.G HR6.out g7) trivial trivial trivial, Rec.g3 (b := w.heap.size) (G.trans g6 g7) (by omega), by simp [World.setCell]; omega⟩
            case measure => simp only [lenOf]; omega
end Go.Proofs.YtielcpkcfpbanacGreatDoor.EN
namespace Go.Proofs.YtielcpkcfpbanacGreatDoor.EN
open Go.ChangeShapes Go.WideShapes Go.ChangeAt Go.RowKit

/-- A call hands back a list and a fault: the list of what Fr tells, or a fault and no list. -/
def RetList (w : World) (L : List Nat) (o : Bool) (e : Ending) (w' : World) : Prop := ∃ (v : Value) (c : Int), e = .returned (.tuple #[v, .agg #[.int .i64 c, .int .i64 0]]) ∧ G w w' ∧ ((o = true ∧ c = 0 ∧ FSl w' v L) ∨ (o = false ∧ c = 3 ∧ v = .slice none 0 0))

theorem whole_c' (w : World) (v : Value) (x : Rat) (L : List Nat) (o : Bool) (hT : Tab w) (hL : L.length ≤ 100000) (h : QIs w v x) (hF : Fr 9223372036854775807 x L o) :
    Calls Tryz.prog 53 #[v] w (RetList w L o) := by
  have HFr : Hid (∀ w1, G w w1 → _) := fun w1 g => front_c w1 v x 9223372036854775807 L o (hT.G g) hL (h.G g) hF
  obtain ⟨a, k, c, a', k', c', rfl, -, -⟩ := h
  generalize decide (x.num < 0) = t at *
  clear hF hT
  go_enter Tryz.func53, Tryz.ntmps53
  go_wp2_with fail
  have g0 : G w (World.alloc (w.alloc (.cells #[.bool t, .slice a k c, .slice a' k' c'] 96)) (.cells #[.int .i64 0, .int .i64 0] 29)) := (((G.refl w).alloc _).alloc _)
  have R0 : Hid (Rec (World.alloc (w.alloc (.cells #[.bool t, .slice a k c, .slice a' k' c'] 96)) (.cells #[.int .i64 0, .int .i64 0] 29)) (w.heap.size) [.bool t, .slice a k c, .slice a' k' c']) := by
    have h := Rec.new3 w (.bool t) (.slice a k c) (.slice a' k' c') 96
    exact (Rec.G h ((G.refl (w.alloc (.cells #[.bool t, .slice a k c, .slice a' k' c'] 96))).alloc (.cells #[.int .i64 0, .int .i64 0] 29)))
  have R1 : Hid (Rec (World.alloc (w.alloc (.cells #[.bool t, .slice a k c, .slice a' k' c'] 96)) (.cells #[.int .i64 0, .int .i64 0] 29)) (w.heap.size + 1) [.int .i64 0, .int .i64 0]) := by
    have h := Rec.new2 (w.alloc (.cells #[.bool t, .slice a k c, .slice a' k' c'] 96)) (.int .i64 0) (.int .i64 0) 29
    rw [show (w.alloc (.cells #[.bool t, .slice a k c, .slice a' k' c'] 96)).heap.size = w.heap.size + 1 from by simp] at h
    exact h
  have hz0 : (World.alloc (w.alloc (.cells #[.bool t, .slice a k c, .slice a' k' c'] 96)) (.cells #[.int .i64 0, .int .i64 0] 29)).heap.size = w.heap.size + 2 := by simp
  generalize (World.alloc (w.alloc (.cells #[.bool t, .slice a k c, .slice a' k' c'] 96)) (.cells #[.int .i64 0, .int .i64 0] 29)) = w0 at *
  refine Calls.mono (P := Tryz.prog) (HFr.out w0 g0) ?_
  intro e1 w1 hs
  obtain ⟨v, rfl, g1, hv⟩ := hs
  have g01 := G.trans g0 g1
  have RF : Hid (Rec w1 (w.heap.size + 1) [.int .i64 0, .int .i64 0]) := Rec.G R1.out g1
  clear R0 R1 hz0 HFr g0 g1
  rcases hv with ⟨rfl, hv⟩ | ⟨rfl, rfl⟩
  · have HV : Hid (FSl _ _ _) := hv
    obtain ⟨pl, cl, rfl, -, -⟩ := hv
    have HV9 : Hid (FSl _ _ _) := FSl.flt (x' := 0) (y' := 0) HV.out RF.out
    have hSRF := Rec.f2 (Rec.G RF.out (G.refl _))
    have hSRF_0 := hSRF.1
    have hSRF_1 := hSRF.2.1
    have hSRF_2 := hSRF.2.2.1
    have hSRF_3 := hSRF.2.2.2
    clear hSRF
    go_wp2_with fail
    have hT : Hid (Rec (World.setCell (World.setCell w1 ⟨w.heap.size + 1, 0, none⟩ (.int .i64 0)) ⟨w.heap.size + 1, 1, none⟩ (.int .i64 0)) (w.heap.size + 1) [.int .i64 0, .int .i64 0]) := Rec.set2 (Rec.G RF.out (G.refl _))
    have g9 := Rec.g2 (b := w.heap.size + 1) (u := .int .i64 0) (v := .int .i64 0) (g01) (by omega)
    generalize (World.setCell (World.setCell w1 ⟨w.heap.size + 1, 0, none⟩ (.int .i64 0)) ⟨w.heap.size + 1, 1, none⟩ (.int .i64 0)) = w9 at *
    have hF := Rec.f2 (Rec.G hT.out ((G.refl _)))
    have hF_0 := hF.1
    have hF_1 := hF.2.1
    have hF_2 := hF.2.2.1
    have hF_3 := hF.2.2.2
    clear hF
    refine bodyPost_ret (v := .tuple #[.slice pl L.length cl, .agg #[.int .i64 0, .int .i64 0]]) (by simp [results, Tryz.results53, go_sem, *]) rfl ?_
    exact ⟨_, _, rfl, g9, Or.inl ⟨rfl, rfl, HV9.out⟩⟩
  · skip
    have hSRF := Rec.f2 (Rec.G RF.out (G.refl _))
    have hSRF_0 := hSRF.1
    have hSRF_1 := hSRF.2.1
    have hSRF_2 := hSRF.2.2.1
    have hSRF_3 := hSRF.2.2.2
    clear hSRF
    go_wp2_with fail
    have hT : Hid (Rec (World.setCell (World.setCell w1 ⟨w.heap.size + 1, 0, none⟩ (.int .i64 3)) ⟨w.heap.size + 1, 1, none⟩ (.int .i64 0)) (w.heap.size + 1) [.int .i64 3, .int .i64 0]) := Rec.set2 (Rec.G RF.out (G.refl _))
    have g9 := Rec.g2 (b := w.heap.size + 1) (u := .int .i64 3) (v := .int .i64 0) (g01) (by omega)
    generalize (World.setCell (World.setCell w1 ⟨w.heap.size + 1, 0, none⟩ (.int .i64 3)) ⟨w.heap.size + 1, 1, none⟩ (.int .i64 0)) = w9 at *
    have hF := Rec.f2 (Rec.G hT.out ((G.refl _)))
    have hF_0 := hF.1
    have hF_1 := hF.2.1
    have hF_2 := hF.2.2.1
    have hF_3 := hF.2.2.2
    clear hF
    refine bodyPost_ret (v := .tuple #[.slice none 0 0, .agg #[.int .i64 3, .int .i64 0]]) (by simp [results, Tryz.results53, go_sem, *]) rfl ?_
    exact ⟨_, _, rfl, g9, Or.inr ⟨rfl, rfl, rfl⟩⟩

/-- Bounds of sums of lists that aren't long. -/
theorem sums_qb {l : List Nat} (h : l.length ≤ 2000) (k : Nat) : QB (Uz ((l.map fz).take k).sum) 80 := by
  refine uz_qb ?_
  have h1 := sums_lt (l := l.take k) (by rw [List.length_take]; omega) (k := 41) rfl
  rw [← List.map_take]
  refine Nat.lt_of_lt_of_le h1 ?_
  obtain ⟨M, hM⟩ : ∃ M : Nat, M = 5000 := ⟨_, rfl⟩
  obtain ⟨K, hK⟩ : ∃ K : Nat, K = 41 := ⟨_, rfl⟩
  rw [← hM, ← hK]
  exact Nat.pow_le_pow_right (by omega) (by omega)
theorem ones_qb (l : List Nat) (k : Nat) : QB (Uz ((l.map fz).getD k 0)) 80 := by
  refine uz_qb ?_
  obtain ⟨M, hM⟩ : ∃ M : Nat, M = 5000 := ⟨_, rfl⟩
  rw [← hM]
  by_cases h : k < l.length
  · rw [getD_map h]
    have h2 := fz_lt (l.getD k 0)
    obtain ⟨N, hN⟩ : ∃ N : Nat, N = 2099 := ⟨_, rfl⟩
    rw [← hN] at h2
    exact Nat.lt_of_lt_of_le h2 (Nat.pow_le_pow_right (by omega) (by omega))
  · have : (l.map fz).getD k 0 = 0 := by
      rw [List.getD_eq_getElem?_getD, List.getElem?_eq_none (by rw [List.length_map]; omega)]
      rfl
    rw [this]
    exact Nat.two_pow_pos _
/-- The sum of what was read. -/
theorem total_of (w : World) (v : Value) (l : List Nat) (hT : Tab w) (h : NSl w v (l.map fz)) (hn : l.length ≤ 2000) :
    Calls Tryz.prog 54 #[v] w (RetQ w (Uz (l.map fz).sum)) :=
  total_c w v (l.map fz) hT h (by rw [List.length_map]; exact hn) (sums_qb hn) (ones_qb l)

/-- A call hands back a list of the sum, or what is at fault. -/
def RetOf (w : World) (l L : List Nat) (o : Bool) (e : Ending) (w' : World) : Prop := ∃ (v : Value) (c a : Int), e = .returned (.tuple #[v, .agg #[.int .i64 c, .int .i64 a]]) ∧ G w w' ∧
  ((Fin l ∧ a = 0 ∧ ((o = true ∧ c = 0 ∧ FSl w' v L) ∨ (o = false ∧ c = 3 ∧ v = .slice none 0 0))) ∨ (∃ i : Nat, c = 4 ∧ a = i ∧ v = .slice none 0 0 ∧ i < l.length ∧ fex (l.getD i 0) = 2047 ∧ ∀ j, j < i → fex (l.getD j 0) < 2047))

theorem list_c (w : World) (v : Value) (l L : List Nat) (o : Bool) (hT : Tab w) (h : FSl w v l) (hl : ∀ b ∈ l, b < 2 ^ 64) (hn : l.length ≤ 2000) (hL : L.length ≤ 100000) (hF : Fin l → Fr 9223372036854775807 (Uz (l.map fz).sum) L o) :
    Calls Tryz.prog 16 #[v] w (RetOf w l L o) := by
  have HR : Hid (∀ w1, G w w1 → _) := fun w1 g => read_c w1 v l (hT.G g) (h.G g) hl hn
  have HTb : Hid (Tab w) := hT
  have HF : Hid _ := hF
  obtain ⟨pa, ca, rfl, -, -⟩ := h
  clear hF hT hl
  go_enter Tryz.func16, Tryz.ntmps16
  go_wp2_with fail
  have g0 : G w (w.alloc (.cells #[.int .i64 0, .int .i64 0] 29)) := ((G.refl w).alloc _)
  have R0 : Hid (Rec (w.alloc (.cells #[.int .i64 0, .int .i64 0] 29)) (w.heap.size) [.int .i64 0, .int .i64 0]) := by
    have h := Rec.new2 w (.int .i64 0) (.int .i64 0) 29
    exact h
  have hz0 : (w.alloc (.cells #[.int .i64 0, .int .i64 0] 29)).heap.size = w.heap.size + 1 := by simp
  generalize (w.alloc (.cells #[.int .i64 0, .int .i64 0] 29)) = w0 at *
  refine Calls.mono (P := Tryz.prog) (HR.out w0 g0) ?_
  intro e1 w1 hs
  obtain ⟨v, c, a, rfl, g1, hv⟩ := hs
  have RF : Hid (Rec w1 w.heap.size [.int .i64 0, .int .i64 0]) := Rec.G R0.out g1
  have g01 := G.trans g0 g1
  clear R0 HR hz0 g0 g1
  rcases hv with ⟨rfl, rfl, hfin, hv⟩ | ⟨i, rfl, rfl, rfl, hi⟩
  · have hF := HF.out hfin
    have HT2 : Hid (∀ w2, G w1 w2 → _) := fun w2 g => total_of w2 v l (HTb.out.G (G.trans g01 g)) (hv.G g) hn
    obtain ⟨pb, cb, rfl, -, -⟩ := hv
    have hlm : (l.map fz).length = l.length := List.length_map _
    rw [hlm] at HT2 ⊢
    have HFin : Hid (Fin l) := hfin
    have HW : Hid (∀ w3 v, G w w3 → QIs w3 v (Uz (l.map fz).sum) → _) := fun w3 v g hv => whole_c' w3 v _ L o (HTb.out.G g) hL hv hF
    generalize (l.map fz).sum = z at *
    clear HF hF hfin hlm HTb
    have hSRF := Rec.f2 (Rec.G RF.out (G.refl _))
    have hSRF_0 := hSRF.1
    have hSRF_1 := hSRF.2.1
    have hSRF_2 := hSRF.2.2.1
    have hSRF_3 := hSRF.2.2.2
    clear hSRF
    have hlt := RF.out.lt
    go_wp2_with fail
    clear hSRF_0 hSRF_1 hSRF_2 hSRF_3
    have g2 : G w1 (w1.alloc (.cells #[.int .i64 0, .int .i64 0] 29)) := ((G.refl w1).alloc _)
    have R0 : Hid (Rec (w1.alloc (.cells #[.int .i64 0, .int .i64 0] 29)) (w1.heap.size) [.int .i64 0, .int .i64 0]) := by
      have h := Rec.new2 w1 (.int .i64 0) (.int .i64 0) 29
      exact h
    have hz2 : (w1.alloc (.cells #[.int .i64 0, .int .i64 0] 29)).heap.size = w1.heap.size + 1 := by simp
    generalize (w1.alloc (.cells #[.int .i64 0, .int .i64 0] 29)) = w2 at *
    refine Calls.mono (P := Tryz.prog) (HT2.out w2 g2) ?_
    intro e1 w3 hs
    obtain ⟨v, rfl, g3, hv⟩ := hs
    have HV : Hid (QIs w3 v (Uz z)) := hv
    have g13 := G.trans g2 g3
    clear HT2 R0 hz2 hv
    go_wp2_with fail
    refine Calls.mono (P := Tryz.prog) (HW.out w3 v (G.trans g01 g13) HV.out) ?_
    intro e1 w4 hs
    obtain ⟨v, c, rfl, g4, hv⟩ := hs
    have g14 := G.trans g13 g4
    have RF4 : Hid (Rec w4 w.heap.size [.int .i64 0, .int .i64 0]) := Rec.G RF.out g14
    have HV9 : Hid ((o = true ∧ c = 0 ∧ FSl ((w4.setCell ⟨w.heap.size, 0, none⟩ (.int .i64 c)).setCell ⟨w.heap.size, 1, none⟩ (.int .i64 0)) v L) ∨ (o = false ∧ c = 3 ∧ v = .slice none 0 0)) := by
      rcases hv with ⟨h1, h2, h3⟩ | h
      · exact Or.inl ⟨h1, h2, h3.flt RF4.out⟩
      · exact Or.inr h
    clear HW HV RF hv
    have hSRF4 := Rec.f2 (Rec.G RF4.out (G.refl _))
    have hSRF4_0 := hSRF4.1
    have hSRF4_1 := hSRF4.2.1
    have hSRF4_2 := hSRF4.2.2.1
    have hSRF4_3 := hSRF4.2.2.2
    clear hSRF4
    go_wp2_with fail
    have hT : Hid (Rec (World.setCell (World.setCell w4 ⟨w.heap.size, 0, none⟩ (.int .i64 c)) ⟨w.heap.size, 1, none⟩ (.int .i64 0)) (w.heap.size) [.int .i64 c, .int .i64 0]) := Rec.set2 (Rec.G RF4.out (G.refl _))
    have g9 := Rec.g2 (b := w.heap.size) (u := .int .i64 c) (v := .int .i64 0) (G.trans g01 g14) (by omega)
    generalize (World.setCell (World.setCell w4 ⟨w.heap.size, 0, none⟩ (.int .i64 c)) ⟨w.heap.size, 1, none⟩ (.int .i64 0)) = w9 at *
    have hF := Rec.f2 (Rec.G hT.out ((G.refl _)))
    have hF_0 := hF.1
    have hF_1 := hF.2.1
    have hF_2 := hF.2.2.1
    have hF_3 := hF.2.2.2
    clear hF
    refine bodyPost_ret (v := .tuple #[v, .agg #[.int .i64 c, .int .i64 0]]) (by simp [results, Tryz.results16, go_sem, *]) rfl ?_
    exact ⟨v, c, 0, rfl, g9, Or.inl ⟨HFin.out, rfl, HV9.out⟩⟩
  · skip
    have hSRF := Rec.f2 (Rec.G RF.out (G.refl _))
    have hSRF_0 := hSRF.1
    have hSRF_1 := hSRF.2.1
    have hSRF_2 := hSRF.2.2.1
    have hSRF_3 := hSRF.2.2.2
    clear hSRF
    have hlt := RF.out.lt
    go_wp2_with fail
    go_region
    go_wp2_with fail
    have hT : Hid (Rec (World.setCell (World.setCell w1 ⟨w.heap.size, 0, none⟩ (.int .i64 4)) ⟨w.heap.size, 1, none⟩ (.int .i64 (i : Int))) (w.heap.size) [.int .i64 4, .int .i64 (i : Int)]) := Rec.set2 (Rec.G RF.out (G.refl _))
    have g9 := Rec.g2 (b := w.heap.size) (u := .int .i64 4) (v := .int .i64 (i : Int)) (g01) (by omega)
    generalize (World.setCell (World.setCell w1 ⟨w.heap.size, 0, none⟩ (.int .i64 4)) ⟨w.heap.size, 1, none⟩ (.int .i64 (i : Int))) = w9 at *
    have hF := Rec.f2 (Rec.G hT.out ((G.refl _)))
    have hF_0 := hF.1
    have hF_1 := hF.2.1
    have hF_2 := hF.2.2.1
    have hF_3 := hF.2.2.2
    clear hF
    have hF_l := Rec.lt hT.out
    refine bodyPost_ret (v := .tuple #[.slice none 0 0, .agg #[.int .i64 4, .int .i64 (i : Int)]]) (by simp [results, Tryz.results16, go_sem, *]) rfl ?_
    exact ⟨_, _, _, rfl, (g9.alloc _).drew, Or.inr ⟨i, rfl, rfl, rfl, hi⟩⟩
end Go.Proofs.YtielcpkcfpbanacGreatDoor.EN
namespace Go.Proofs.YtielcpkcfpbanacGreatDoor.EN
open Go.ChangeShapes Go.WideShapes Go.ChangeAt Go.RowKit

/-- A number's float in a mode. -/
def flW (m : Int) (q : Rat) : Nat := if q = 0 then 0 else FT.wrd (decide (q.num < 0)) (rdV m (decide (q.num < 0)) q.num.natAbs q.den)
theorem float_any (w : World) (v : Value) (x : Rat) (m : Int) (hm : m = 1 ∨ m = 2 ∨ m = 3 ∨ m = 4) (hx : QIs w v x) (hb : QB x 80) :
    Calls Tryz.prog 106 #[v, .int .i64 m] w fun r w' => r = .returned (.tuple #[.float .f64 (flW m x), .int .i64 0]) ∧ G w w' := by
  unfold flW
  by_cases h : x = 0
  · subst h
    rw [if_pos rfl]
    exact float_zero_c w v m hm hx
  · rw [if_neg h]
    exact float_c w v x m 80 (by omega) (by omega) hm hx h hb

theorem rounded_of (w : World) (v : Value) (x : Rat) (m c : Int) (b : Nat) (h : QIs w v x) (hF : ∀ w1, G w w1 → Calls Tryz.prog 106 #[v, .int .i64 m] w1 fun r w' => r = .returned (.tuple #[.float .f64 b, .int .i64 c]) ∧ G w1 w') :
    Calls Tryz.prog 62 #[v, .int .i64 m] w fun r w' => r = .returned (.tuple #[.float .f64 b, .agg #[.int .i64 c, .int .i64 0]]) ∧ G w w' := by
  have HF : Hid (∀ w1, G w w1 → _) := hF
  obtain ⟨a, k, d, a', k', d', rfl, -, -⟩ := h
  generalize decide (x.num < 0) = t at *
  clear hF
  go_enter Tryz.func62, Tryz.ntmps62
  go_wp2_with fail
  have g0 : G w (World.alloc (w.alloc (.cells #[.bool t, .slice a k d, .slice a' k' d'] 96)) (.cells #[.int .i64 0, .int .i64 0] 29)) := (((G.refl w).alloc _).alloc _)
  have R0 : Hid (Rec (World.alloc (w.alloc (.cells #[.bool t, .slice a k d, .slice a' k' d'] 96)) (.cells #[.int .i64 0, .int .i64 0] 29)) (w.heap.size) [.bool t, .slice a k d, .slice a' k' d']) := by
    have h := Rec.new3 w (.bool t) (.slice a k d) (.slice a' k' d') 96
    exact (Rec.G h ((G.refl (w.alloc (.cells #[.bool t, .slice a k d, .slice a' k' d'] 96))).alloc (.cells #[.int .i64 0, .int .i64 0] 29)))
  have R1 : Hid (Rec (World.alloc (w.alloc (.cells #[.bool t, .slice a k d, .slice a' k' d'] 96)) (.cells #[.int .i64 0, .int .i64 0] 29)) (w.heap.size + 1) [.int .i64 0, .int .i64 0]) := by
    have h := Rec.new2 (w.alloc (.cells #[.bool t, .slice a k d, .slice a' k' d'] 96)) (.int .i64 0) (.int .i64 0) 29
    rw [show (w.alloc (.cells #[.bool t, .slice a k d, .slice a' k' d'] 96)).heap.size = w.heap.size + 1 from by simp] at h
    exact h
  have hz0 : (World.alloc (w.alloc (.cells #[.bool t, .slice a k d, .slice a' k' d'] 96)) (.cells #[.int .i64 0, .int .i64 0] 29)).heap.size = w.heap.size + 2 := by simp
  generalize (World.alloc (w.alloc (.cells #[.bool t, .slice a k d, .slice a' k' d'] 96)) (.cells #[.int .i64 0, .int .i64 0] 29)) = w0 at *
  refine Calls.mono (P := Tryz.prog) (HF.out w0 g0) ?_
  rintro e1 w1 ⟨rfl, g1⟩
  have hSR1 := Rec.f2 (Rec.G R1.out (g1))
  have hSR1_0 := hSR1.1
  have hSR1_1 := hSR1.2.1
  have hSR1_2 := hSR1.2.2.1
  have hSR1_3 := hSR1.2.2.2
  clear hSR1
  go_wp2_with fail
  have hT : Hid (Rec (World.setCell (World.setCell w1 ⟨w.heap.size + 1, 0, none⟩ (.int .i64 c)) ⟨w.heap.size + 1, 1, none⟩ (.int .i64 0)) (w.heap.size + 1) [.int .i64 c, .int .i64 0]) := Rec.set2 (Rec.G R1.out (g1))
  have g9 := Rec.g2 (b := w.heap.size + 1) (u := .int .i64 c) (v := .int .i64 0) (G.trans g0 g1) (by omega)
  generalize (World.setCell (World.setCell w1 ⟨w.heap.size + 1, 0, none⟩ (.int .i64 c)) ⟨w.heap.size + 1, 1, none⟩ (.int .i64 0)) = w9 at *
  have hF := Rec.f2 (Rec.G hT.out ((G.refl _)))
  have hF_0 := hF.1
  have hF_1 := hF.2.1
  have hF_2 := hF.2.2.1
  have hF_3 := hF.2.2.2
  clear hF
  refine bodyPost_ret (v := .tuple #[.float .f64 b, .agg #[.int .i64 c, .int .i64 0]]) (by simp [results, Tryz.results62, go_sem, *]) rfl ?_
  exact ⟨rfl, g9⟩

/-- A call hands back a sum's float, or what is at fault. -/
def RetSum (w : World) (l : List Nat) (m : Int) (e : Ending) (w' : World) : Prop := ∃ (b : Nat) (c a : Int), e = .returned (.tuple #[.float .f64 b, .agg #[.int .i64 c, .int .i64 a]]) ∧ G w w' ∧
  ((Fin l ∧ b = flW m (Uz (l.map fz).sum) ∧ c = 0 ∧ a = 0) ∨ (∃ i : Nat, b = 0 ∧ c = 4 ∧ a = i ∧ i < l.length ∧ fex (l.getD i 0) = 2047 ∧ ∀ j, j < i → fex (l.getD j 0) < 2047))

theorem sum_c (w : World) (v : Value) (l : List Nat) (m : Int) (hm : m = 1 ∨ m = 2 ∨ m = 3 ∨ m = 4) (hT : Tab w) (h : FSl w v l) (hl : ∀ b ∈ l, b < 2 ^ 64) (hn : l.length ≤ 2000) :
    Calls Tryz.prog 27 #[v, .int .i64 m] w (RetSum w l m) := by
  have HR : Hid (∀ w1, G w w1 → _) := fun w1 g => read_c w1 v l (hT.G g) (h.G g) hl hn
  have HTb : Hid (Tab w) := hT
  have HM : Hid (m = 1 ∨ m = 2 ∨ m = 3 ∨ m = 4) := hm
  obtain ⟨pa, ca, rfl, -, -⟩ := h
  clear hT hl hm
  go_enter Tryz.func27, Tryz.ntmps27
  go_wp2_with fail
  have g0 : G w (w.alloc (.cells #[.int .i64 0, .int .i64 0] 29)) := ((G.refl w).alloc _)
  have R0 : Hid (Rec (w.alloc (.cells #[.int .i64 0, .int .i64 0] 29)) (w.heap.size) [.int .i64 0, .int .i64 0]) := by
    have h := Rec.new2 w (.int .i64 0) (.int .i64 0) 29
    exact h
  have hz0 : (w.alloc (.cells #[.int .i64 0, .int .i64 0] 29)).heap.size = w.heap.size + 1 := by simp
  generalize (w.alloc (.cells #[.int .i64 0, .int .i64 0] 29)) = w0 at *
  refine Calls.mono (P := Tryz.prog) (HR.out w0 g0) ?_
  intro e1 w1 hs
  obtain ⟨v, c, a, rfl, g1, hv⟩ := hs
  have RF : Hid (Rec w1 w.heap.size [.int .i64 0, .int .i64 0]) := Rec.G R0.out g1
  have g01 := G.trans g0 g1
  clear R0 HR hz0 g0 g1
  rcases hv with ⟨rfl, rfl, hfin, hv⟩ | ⟨i, rfl, rfl, rfl, hi⟩
  · have HT2 : Hid (∀ w2, G w1 w2 → _) := fun w2 g => total_of w2 v l (HTb.out.G (G.trans g01 g)) (hv.G g) hn
    obtain ⟨pb, cb, rfl, -, -⟩ := hv
    have hlm : (l.map fz).length = l.length := List.length_map _
    rw [hlm] at HT2 ⊢
    have HFin : Hid (Fin l) := hfin
    have hqb := sums_qb hn l.length
    rw [List.take_of_length_le (by rw [hlm]; exact Nat.le_refl _)] at hqb
    have HW : Hid (∀ w3 v, QIs w3 v (Uz (l.map fz).sum) → _) := fun w3 v hv => rounded_of w3 v _ m 0 _ hv (fun w1 g => float_any w1 v _ m HM.out (hv.G g) hqb)
    obtain ⟨b, hb⟩ : ∃ b, b = flW m (Uz (l.map fz).sum) := ⟨_, rfl⟩
    have HB : Hid (b = flW m (Uz (l.map fz).sum)) := hb
    rw [← hb] at HW
    clear hqb hfin hlm HTb hb
    have hSRF := Rec.f2 (Rec.G RF.out (G.refl _))
    have hSRF_0 := hSRF.1
    have hSRF_1 := hSRF.2.1
    have hSRF_2 := hSRF.2.2.1
    have hSRF_3 := hSRF.2.2.2
    clear hSRF
    have hlt := RF.out.lt
    go_wp2_with fail
    clear hSRF_0 hSRF_1 hSRF_2 hSRF_3
    have g2 : G w1 (w1.alloc (.cells #[.int .i64 0, .int .i64 0] 29)) := ((G.refl w1).alloc _)
    have R0 : Hid (Rec (w1.alloc (.cells #[.int .i64 0, .int .i64 0] 29)) (w1.heap.size) [.int .i64 0, .int .i64 0]) := by
      have h := Rec.new2 w1 (.int .i64 0) (.int .i64 0) 29
      exact h
    have hz2 : (w1.alloc (.cells #[.int .i64 0, .int .i64 0] 29)).heap.size = w1.heap.size + 1 := by simp
    generalize (w1.alloc (.cells #[.int .i64 0, .int .i64 0] 29)) = w2 at *
    refine Calls.mono (P := Tryz.prog) (HT2.out w2 g2) ?_
    intro e1 w3 hs
    obtain ⟨v, rfl, g3, hv⟩ := hs
    have HV : Hid (QIs w3 v (Uz (l.map fz).sum)) := hv
    have g13 := G.trans g2 g3
    clear HT2 R0 hz2 hv
    go_wp2_with fail
    refine Calls.mono (P := Tryz.prog) (HW.out w3 v HV.out) ?_
    rintro e1 w4 ⟨rfl, g4⟩
    have g14 := G.trans g13 g4
    have RF4 : Hid (Rec w4 w.heap.size [.int .i64 0, .int .i64 0]) := Rec.G RF.out g14
    clear HW HV RF
    have hSRF4 := Rec.f2 (Rec.G RF4.out (G.refl _))
    have hSRF4_0 := hSRF4.1
    have hSRF4_1 := hSRF4.2.1
    have hSRF4_2 := hSRF4.2.2.1
    have hSRF4_3 := hSRF4.2.2.2
    clear hSRF4
    go_wp2_with fail
    have hT : Hid (Rec (World.setCell (World.setCell w4 ⟨w.heap.size, 0, none⟩ (.int .i64 0)) ⟨w.heap.size, 1, none⟩ (.int .i64 0)) (w.heap.size) [.int .i64 0, .int .i64 0]) := Rec.set2 (Rec.G RF4.out (G.refl _))
    have g9 := Rec.g2 (b := w.heap.size) (u := .int .i64 0) (v := .int .i64 0) (G.trans g01 g14) (by omega)
    generalize (World.setCell (World.setCell w4 ⟨w.heap.size, 0, none⟩ (.int .i64 0)) ⟨w.heap.size, 1, none⟩ (.int .i64 0)) = w9 at *
    have hF := Rec.f2 (Rec.G hT.out ((G.refl _)))
    have hF_0 := hF.1
    have hF_1 := hF.2.1
    have hF_2 := hF.2.2.1
    have hF_3 := hF.2.2.2
    clear hF
    refine bodyPost_ret (v := .tuple #[.float .f64 b, .agg #[.int .i64 0, .int .i64 0]]) (by simp [results, Tryz.results27, go_sem, *]) rfl ?_
    exact ⟨b, 0, 0, rfl, g9, Or.inl ⟨HFin.out, HB.out, rfl, rfl⟩⟩
  · skip
    have hSRF := Rec.f2 (Rec.G RF.out (G.refl _))
    have hSRF_0 := hSRF.1
    have hSRF_1 := hSRF.2.1
    have hSRF_2 := hSRF.2.2.1
    have hSRF_3 := hSRF.2.2.2
    clear hSRF
    have hlt := RF.out.lt
    go_wp2_with fail
    go_region
    go_wp2_with fail
    have hT : Hid (Rec (World.setCell (World.setCell w1 ⟨w.heap.size, 0, none⟩ (.int .i64 4)) ⟨w.heap.size, 1, none⟩ (.int .i64 (i : Int))) (w.heap.size) [.int .i64 4, .int .i64 (i : Int)]) := Rec.set2 (Rec.G RF.out (G.refl _))
    have g9 := Rec.g2 (b := w.heap.size) (u := .int .i64 4) (v := .int .i64 (i : Int)) (g01) (by omega)
    generalize (World.setCell (World.setCell w1 ⟨w.heap.size, 0, none⟩ (.int .i64 4)) ⟨w.heap.size, 1, none⟩ (.int .i64 (i : Int))) = w9 at *
    have hF := Rec.f2 (Rec.G hT.out ((G.refl _)))
    have hF_0 := hF.1
    have hF_1 := hF.2.1
    have hF_2 := hF.2.2.1
    have hF_3 := hF.2.2.2
    clear hF
    have hF_l := Rec.lt hT.out
    refine bodyPost_ret (v := .tuple #[.float .f64 0, .agg #[.int .i64 4, .int .i64 (i : Int)]]) (by simp [results, Tryz.results27, go_sem, *]) rfl ?_
    exact ⟨_, _, _, rfl, (g9.alloc _).drew, Or.inr ⟨i, rfl, rfl, rfl, hi⟩⟩

/-- Both lists are read. -/
def RetBoth (w : World) (l m : List Nat) (e : Ending) (w' : World) : Prop := ∃ (v u : Value), e = .returned (.tuple #[v, u, .agg #[.int .i64 0, .int .i64 0]]) ∧ G w w' ∧ NSl w' v (l.map fz) ∧ NSl w' u (m.map fz)
theorem not_fin {l : List Nat} (h : Fin l) {i : Nat} (hi : i < l.length) (hf : fex (l.getD i 0) = 2047) : False := by
  have := h (l.getD i 0) (by rw [List.getD_eq_getElem?_getD, List.getElem?_eq_getElem hi]; exact List.getElem_mem _)
  omega
theorem readBoth_c (w : World) (v u : Value) (l m : List Nat) (hT : Tab w) (h : FSl w v l) (hu : FSl w u m) (hl : ∀ b ∈ l, b < 2 ^ 64) (hm : ∀ b ∈ m, b < 2 ^ 64) (hn : l.length ≤ 2000) (hk : m.length ≤ 2000) (hfl : Fin l) (hfm : Fin m) :
    Calls Tryz.prog 55 #[v, u] w (RetBoth w l m) := by
  have HR : Hid (∀ w1, G w w1 → _) := fun w1 g => read_c w1 v l (hT.G g) (h.G g) hl hn
  have HR2 : Hid (∀ w1, G w w1 → _) := fun w1 g => read_c w1 u m (hT.G g) (hu.G g) hm hk
  have HFl : Hid (Fin l) := hfl
  have HFm : Hid (Fin m) := hfm
  obtain ⟨pa, ca, rfl, -, -⟩ := h
  obtain ⟨pb, cb, rfl, -, -⟩ := hu
  clear hT hl hm hfl hfm
  go_enter Tryz.func55, Tryz.ntmps55
  go_wp2_with fail
  have g0 : G w (w.alloc (.cells #[.int .i64 0, .int .i64 0] 29)) := ((G.refl w).alloc _)
  have R0 : Hid (Rec (w.alloc (.cells #[.int .i64 0, .int .i64 0] 29)) (w.heap.size) [.int .i64 0, .int .i64 0]) := by
    have h := Rec.new2 w (.int .i64 0) (.int .i64 0) 29
    exact h
  have hz0 : (w.alloc (.cells #[.int .i64 0, .int .i64 0] 29)).heap.size = w.heap.size + 1 := by simp
  generalize (w.alloc (.cells #[.int .i64 0, .int .i64 0] 29)) = w0 at *
  refine Calls.mono (P := Tryz.prog) (HR.out w0 g0) ?_
  intro e1 w1 hs
  obtain ⟨v, c, a, rfl, g1, hv⟩ := hs
  have RF : Hid (Rec w1 w.heap.size [.int .i64 0, .int .i64 0]) := Rec.G R0.out g1
  have g01 := G.trans g0 g1
  clear R0 HR hz0 g0 g1
  rcases hv with ⟨rfl, rfl, -, hv⟩ | ⟨i, -, -, -, hi1, hi2, -⟩
  case inr => exact absurd hi2 (fun h => not_fin HFl.out hi1 h)
  have HV : Hid (NSl w1 v (l.map fz)) := hv
  clear hv HFl
  have hSRF := Rec.f2 (Rec.G RF.out (G.refl _))
  have hSRF_0 := hSRF.1
  have hSRF_1 := hSRF.2.1
  have hSRF_2 := hSRF.2.2.1
  have hSRF_3 := hSRF.2.2.2
  clear hSRF
  have hlt := RF.out.lt
  go_wp2_with fail
  clear hSRF_0 hSRF_1 hSRF_2 hSRF_3 hlt
  have RF2 : Hid (Rec ((w1.setCell ⟨w.heap.size, 0, none⟩ (.int .i64 0)).setCell ⟨w.heap.size, 1, none⟩ (.int .i64 0)) w.heap.size [.int .i64 0, .int .i64 0]) := Rec.set2 RF.out
  have HV2 : Hid (NSl ((w1.setCell ⟨w.heap.size, 0, none⟩ (.int .i64 0)).setCell ⟨w.heap.size, 1, none⟩ (.int .i64 0)) v (l.map fz)) := NSl.flt HV.out RF.out
  have g12 : G w ((w1.setCell ⟨w.heap.size, 0, none⟩ (.int .i64 0)).setCell ⟨w.heap.size, 1, none⟩ (.int .i64 0)) := Rec.g2 (b := w.heap.size) g01 (by omega)
  clear HV RF g01
  generalize (w1.setCell ⟨w.heap.size, 0, none⟩ (.int .i64 0)).setCell ⟨w.heap.size, 1, none⟩ (.int .i64 0) = w2 at *
  refine Calls.mono (P := Tryz.prog) (HR2.out w2 g12) ?_
  intro e1 w3 hs
  obtain ⟨u, c, a, rfl, g3, hu⟩ := hs
  have RF3 : Hid (Rec w3 w.heap.size [.int .i64 0, .int .i64 0]) := Rec.G RF2.out g3
  have g13 := G.trans g12 g3
  have HV3 : Hid (NSl w3 v (l.map fz)) := NSl.G HV2.out g3
  clear RF2 HV2 HR2
  rcases hu with ⟨rfl, rfl, -, hu⟩ | ⟨i, -, -, -, hi1, hi2, -⟩
  case inr => exact absurd hi2 (fun h => not_fin HFm.out hi1 h)
  have HU : Hid (NSl w3 u (m.map fz)) := hu
  clear hu HFm
  have RF4 : Hid (Rec ((w3.setCell ⟨w.heap.size, 0, none⟩ (.int .i64 0)).setCell ⟨w.heap.size, 1, none⟩ (.int .i64 0)) w.heap.size [.int .i64 0, .int .i64 0]) := Rec.set2 RF3.out
  have HV4 : Hid (NSl ((w3.setCell ⟨w.heap.size, 0, none⟩ (.int .i64 0)).setCell ⟨w.heap.size, 1, none⟩ (.int .i64 0)) v (l.map fz)) := NSl.flt HV3.out RF3.out
  have HU4 : Hid (NSl ((w3.setCell ⟨w.heap.size, 0, none⟩ (.int .i64 0)).setCell ⟨w.heap.size, 1, none⟩ (.int .i64 0)) u (m.map fz)) := NSl.flt HU.out RF3.out
  have g14 : G w ((w3.setCell ⟨w.heap.size, 0, none⟩ (.int .i64 0)).setCell ⟨w.heap.size, 1, none⟩ (.int .i64 0)) := Rec.g2 (b := w.heap.size) g13 (by omega)
  have hSRF3 := Rec.f2 (Rec.G RF3.out (G.refl _))
  have hSRF3_0 := hSRF3.1
  have hSRF3_1 := hSRF3.2.1
  have hSRF3_2 := hSRF3.2.2.1
  have hSRF3_3 := hSRF3.2.2.2
  clear hSRF3
  have hlt := RF3.out.lt
  go_wp2_with fail
  clear hSRF3_0 hSRF3_1 hSRF3_2 hSRF3_3 hlt HV3 HU RF3 g13
  generalize (w3.setCell ⟨w.heap.size, 0, none⟩ (.int .i64 0)).setCell ⟨w.heap.size, 1, none⟩ (.int .i64 0) = w4 at *
  have HV9 : Hid (NSl _ _ _) := NSl.flt (x' := 0) (y' := 0) HV4.out RF4.out
  have HU9 : Hid (NSl _ _ _) := NSl.flt (x' := 0) (y' := 0) HU4.out RF4.out
  have hSRF4 := Rec.f2 (Rec.G RF4.out (G.refl _))
  have hSRF4_0 := hSRF4.1
  have hSRF4_1 := hSRF4.2.1
  have hSRF4_2 := hSRF4.2.2.1
  have hSRF4_3 := hSRF4.2.2.2
  clear hSRF4
  have hlt := RF4.out.lt
  go_region
  go_wp2_with fail
  have hT : Hid (Rec (World.setCell (World.setCell w4 ⟨w.heap.size, 0, none⟩ (.int .i64 0)) ⟨w.heap.size, 1, none⟩ (.int .i64 0)) (w.heap.size) [.int .i64 0, .int .i64 0]) := Rec.set2 (Rec.G RF4.out (G.refl _))
  have g9 := Rec.g2 (b := w.heap.size) (u := .int .i64 0) (v := .int .i64 0) (g14) (by omega)
  generalize (World.setCell (World.setCell w4 ⟨w.heap.size, 0, none⟩ (.int .i64 0)) ⟨w.heap.size, 1, none⟩ (.int .i64 0)) = w9 at *
  have hF := Rec.f2 (Rec.G hT.out ((G.refl _)))
  have hF_0 := hF.1
  have hF_1 := hF.2.1
  have hF_2 := hF.2.2.1
  have hF_3 := hF.2.2.2
  clear hF
  have hF_l := Rec.lt hT.out
  refine bodyPost_ret (v := .tuple #[v, u, .agg #[.int .i64 0, .int .i64 0]]) (by simp [results, Tryz.results55, go_sem, *]) rfl ?_
  exact ⟨v, u, rfl, g9.drew, HV9.out.G (G.refl _).drew, HU9.out.G (G.refl _).drew⟩

theorem lists_cmp_c (w : World) (v u : Value) (l m : List Nat) (hT : Tab w) (h : FSl w v l) (hu : FSl w u m) (hl : ∀ b ∈ l, b < 2 ^ 64) (hm : ∀ b ∈ m, b < 2 ^ 64) (hn : l.length ≤ 2000) (hk : m.length ≤ 2000) (hfl : Fin l) (hfm : Fin m) :
    Calls Tryz.prog 18 #[v, u] w fun e w' => e = .returned (.tuple #[.int .i64 ((l.map fz).sum - (m.map fz).sum).sign, .agg #[.int .i64 0, .int .i64 0]]) ∧ G w w' := by
  have HR : Hid (∀ w1, G w w1 → _) := fun w1 g => readBoth_c w1 v u l m (hT.G g) (h.G g) (hu.G g) hl hm hn hk hfl hfm
  have HTb : Hid (Tab w) := hT
  have hq1 := sums_qb hn l.length
  rw [List.take_of_length_le (by rw [List.length_map]; exact Nat.le_refl _)] at hq1
  have hq2 := sums_qb hk m.length
  rw [List.take_of_length_le (by rw [List.length_map]; exact Nat.le_refl _)] at hq2
  obtain ⟨pa, ca, rfl, -, -⟩ := h
  obtain ⟨pb, cb, rfl, -, -⟩ := hu
  have HC : Hid (∀ w1 v u, QIs w1 v (Uz (l.map fz).sum) → QIs w1 u (Uz (m.map fz).sum) → Calls Tryz.prog 57 #[v, u] w1 fun e w' => e = .returned (.int .i64 ((l.map fz).sum - (m.map fz).sum).sign) ∧ G w1 w') := fun w1 v u k1 k2 => by
    have h := qcmp_c w1 v u _ _ 80 (by omega) k1 k2 hq1 hq2
    rw [uz_cmp] at h
    exact h
  have HT1 : Hid (∀ w2 v, G w w2 → NSl w2 v (l.map fz) → _) := fun w2 v g hv => total_of w2 v l (HTb.out.G g) hv hn
  have HT2 : Hid (∀ w2 v, G w w2 → NSl w2 v (m.map fz) → _) := fun w2 v g hv => total_of w2 v m (HTb.out.G g) hv hk
  clear hT hl hm hfl hfm hq1 hq2 HTb
  generalize ((l.map fz).sum - (m.map fz).sum).sign = s at *
  go_enter Tryz.func18, Tryz.ntmps18
  go_wp2_with fail
  have g0 : G w (w.alloc (.cells #[.int .i64 0, .int .i64 0] 29)) := ((G.refl w).alloc _)
  have R0 : Hid (Rec (w.alloc (.cells #[.int .i64 0, .int .i64 0] 29)) (w.heap.size) [.int .i64 0, .int .i64 0]) := by
    have h := Rec.new2 w (.int .i64 0) (.int .i64 0) 29
    exact h
  have hz0 : (w.alloc (.cells #[.int .i64 0, .int .i64 0] 29)).heap.size = w.heap.size + 1 := by simp
  generalize (w.alloc (.cells #[.int .i64 0, .int .i64 0] 29)) = w0 at *
  refine Calls.mono (P := Tryz.prog) (HR.out w0 g0) ?_
  intro e1 w1 hs
  obtain ⟨v, u, rfl, g1, hv, hu⟩ := hs
  have RF : Hid (Rec w1 w.heap.size [.int .i64 0, .int .i64 0]) := Rec.G R0.out g1
  have g01 := G.trans g0 g1
  clear R0 HR hz0 g0 g1
  have HV : Hid (NSl w1 v (l.map fz)) := hv
  have HU : Hid (NSl w1 u (m.map fz)) := hu
  clear hv hu
  have hlt := RF.out.lt
  go_wp2_with fail
  have g2 : G w1 (w1.alloc (.cells #[.int .i64 0, .int .i64 0] 29)) := ((G.refl w1).alloc _)
  have R0 : Hid (Rec (w1.alloc (.cells #[.int .i64 0, .int .i64 0] 29)) (w1.heap.size) [.int .i64 0, .int .i64 0]) := by
    have h := Rec.new2 w1 (.int .i64 0) (.int .i64 0) 29
    exact h
  have hz2 : (w1.alloc (.cells #[.int .i64 0, .int .i64 0] 29)).heap.size = w1.heap.size + 1 := by simp
  generalize (w1.alloc (.cells #[.int .i64 0, .int .i64 0] 29)) = w2 at *
  have g02 := G.trans g01 g2
  refine Calls.mono (P := Tryz.prog) (HT1.out w2 v g02 (NSl.G HV.out g2)) ?_
  intro e1 w3 hs
  obtain ⟨p, rfl, g3, hp⟩ := hs
  have HP : Hid (QIs w3 p (Uz (l.map fz).sum)) := hp
  have g03 := G.trans g02 g3
  have HU3 : Hid (NSl w3 u (m.map fz)) := NSl.G HU.out (G.trans g2 g3)
  clear HT1 HV HU hp R0 hz2
  go_wp2_with fail
  refine Calls.mono (P := Tryz.prog) (HT2.out w3 u g03 HU3.out) ?_
  intro e1 w4 hs
  obtain ⟨q, rfl, g4, hq⟩ := hs
  have HQ : Hid (QIs w4 q (Uz (m.map fz).sum)) := hq
  have HP4 : Hid (QIs w4 p (Uz (l.map fz).sum)) := QIs.G HP.out g4
  clear HT2 HP HU3 hq
  go_wp2_with fail
  refine Calls.mono (P := Tryz.prog) (HC.out w4 p q HP4.out HQ.out) ?_
  rintro e1 w5 ⟨rfl, g5⟩
  have g15 := G.trans g2 (G.trans g3 (G.trans g4 g5))
  clear HC HP4 HQ hlt
  have hSRF := Rec.f2 (Rec.G RF.out (g15))
  have hSRF_0 := hSRF.1
  have hSRF_1 := hSRF.2.1
  have hSRF_2 := hSRF.2.2.1
  have hSRF_3 := hSRF.2.2.2
  clear hSRF
  go_wp2_with fail
  have hT : Hid (Rec (World.setCell (World.setCell w5 ⟨w.heap.size, 0, none⟩ (.int .i64 0)) ⟨w.heap.size, 1, none⟩ (.int .i64 0)) (w.heap.size) [.int .i64 0, .int .i64 0]) := Rec.set2 (Rec.G RF.out (g15))
  have g9 := Rec.g2 (b := w.heap.size) (u := .int .i64 0) (v := .int .i64 0) (G.trans g01 g15) (by omega)
  generalize (World.setCell (World.setCell w5 ⟨w.heap.size, 0, none⟩ (.int .i64 0)) ⟨w.heap.size, 1, none⟩ (.int .i64 0)) = w9 at *
  have hF := Rec.f2 (Rec.G hT.out ((G.refl _)))
  have hF_0 := hF.1
  have hF_1 := hF.2.1
  have hF_2 := hF.2.2.1
  have hF_3 := hF.2.2.2
  clear hF
  refine bodyPost_ret (v := .tuple #[.int .i64 s, .agg #[.int .i64 0, .int .i64 0]]) (by simp [results, Tryz.results18, go_sem, *]) rfl ?_
  exact ⟨rfl, g9⟩
end Go.Proofs.YtielcpkcfpbanacGreatDoor.EN
namespace Go.Proofs.YtielcpkcfpbanacGreatDoor.EN
open Go.ChangeShapes Go.WideShapes Go.ChangeAt Go.RowKit

/-- A store of a float. -/
theorem run_store_flt (P : Program) (w : World) (a : Addr) (m : Mode) (k : FloatKind) (n : Nat) : (store a (.float k n) m).run P w = stored P w a (.float k n) m := run_store P w a _ m rfl
attribute [local go_sem] run_store_flt
theorem two_cells (w : World) (t : TypeId) (x y : Value) : (w.alloc (.cells #[x, y] t)).cell? ⟨w.heap.size, 0, none⟩ = some x ∧ (w.alloc (.cells #[x, y] t)).cell? ⟨w.heap.size, 1, none⟩ = some y ∧ (w.alloc (.cells #[x, y] t)).frozen? ⟨w.heap.size, 0, none⟩ = false ∧ (w.alloc (.cells #[x, y] t)).frozen? ⟨w.heap.size, 1, none⟩ = false :=
  Rec.f2 (Rec.new2 w x y t)
set_option maxRecDepth 10000 in
/-- 'copy' of a list of up to two floats into an array of two. -/
theorem copy_pair (w : World) (a : Option Addr) (L : List Nat) (n c : Nat) (h : FSl w (.slice a n c) L) (hn : L.length = n) (h2 : n ≤ 2) :
    ∃ w2, (Builtin.copy_ #[22, 22] 3 #[.slice (some ⟨w.heap.size, 0, none⟩) 2 2, .slice a n c]).run Tryz.prog (w.alloc (.cells #[.float .f64 0, .float .f64 0] 208)) = .ok (goInt n) w2 ∧ G w w2 ∧
      w2.cell? ⟨w.heap.size, 0, none⟩ = some (.float .f64 (L.getD 0 0)) ∧ w2.cell? ⟨w.heap.size, 1, none⟩ = some (.float .f64 (L.getD 1 0)) := by
  have hA := two_cells w 208 (.float .f64 0) (.float .f64 0)
  have hG : G w (w.alloc (.cells #[.float .f64 0, .float .f64 0] 208)) := (G.refl w).alloc _
  have hkr : (Tryz.prog.info? 26).map (·.size) = some 1 := by kernel_rfl
  generalize w.alloc (.cells #[.float .f64 0, .float .f64 0] 208) = wA at *
  obtain ⟨hA1, hA2, hA3, hA4⟩ := hA
  have hcell : ∀ k, k < 2 → (wA.cell? ⟨w.heap.size, k, none⟩).isSome = true ∧ wA.frozen? ⟨w.heap.size, k, none⟩ = false := fun k hk => by
    have : k = 0 ∨ k = 1 := by omega
    rcases this with rfl | rfl
    · rw [hA1]; exact ⟨rfl, hA3⟩
    · rw [hA2]; exact ⟨rfl, hA4⟩
  by_cases h0 : n = 0
  · subst h0
    have hL : L = [] := List.eq_nil_of_length_eq_zero hn
    subst hL
    exact ⟨wA, run_copy_none _ 22 22 3 26 _ _ _ _ _ _ Tryz.underlying22 hkr (Nat.zero_min _), hG, hA1, hA2⟩
  · obtain ⟨a', c', e, -, hr⟩ := h
    injection e with e1 e2 e3
    subst e1
    obtain ⟨b, o, rfl, hb, -⟩ := hr 0 (by omega)
    have hr2 : ∀ i, i < L.length → w.cell? ⟨b, o + i, none⟩ = some (.float .f64 (L.getD i 0)) := fun i hi => by
      obtain ⟨b2, o2, e2, -, h⟩ := hr i hi
      injection e2 with e2
      injection e2 with e4 e5
      subst e4; subst e5
      exact h
    have h := run_copy_cells (P := Tryz.prog) wA 22 22 3 26 w.heap.size 0 2 2 ⟨b, o, none⟩ n c (fl L) Tryz.underlying22 hkr
      (by rw [fl_len, hn]; exact (Nat.min_eq_left h2).symm)
      (fun j u hu => by
        have hj : j < L.length := by rw [← fl_len L]; exact (List.getElem?_eq_some_iff.1 hu).1
        rw [fl_get hj] at hu
        rw [addr_add]
        have := hG.cell (p := ⟨b, o + j, none⟩) hb (hr2 j hj)
        rw [this, Option.some.inj hu])
      (fun j hj => by rw [fl_len] at hj; rw [Nat.zero_add]; exact (hcell j (by omega)).1)
      (fun j hj => by rw [fl_len] at hj; rw [Nat.zero_add]; exact (hcell j (by omega)).2)
      (fun u hu => by
        obtain ⟨b2, -, rfl⟩ := List.mem_map.1 hu
        rfl)
    rw [fl_len, hn] at h
    refine ⟨_, h, G.setCells (Nat.le_refl _) _ _ _ hG, ?_, ?_⟩
    · rcases L with _ | ⟨x, _ | ⟨y, _ | ⟨z, L⟩⟩⟩
      · exact absurd hn.symm h0
      · simp only [fl, List.map_cons, List.map_nil, World.setCells]
        rw [World.cell?_setCell_same _ _ _ hA1]
        rfl
      · simp only [fl, List.map_cons, List.map_nil, World.setCells]
        rw [World.cell?_setCell_other _ _ _ _ (by intro e; injection e with e1 e2; omega), World.cell?_setCell_same _ _ _ hA1]
        rfl
      · simp at hn; omega
    · rcases L with _ | ⟨x, _ | ⟨y, _ | ⟨z, L⟩⟩⟩
      · exact absurd hn.symm h0
      · simp only [fl, List.map_cons, List.map_nil, World.setCells]
        rw [World.cell?_setCell_other _ _ _ _ (by intro e; injection e with e1 e2; omega), hA2]
        rfl
      · simp only [fl, List.map_cons, List.map_nil, World.setCells]
        have h3 : (wA.setCell ⟨w.heap.size, 0, none⟩ (.float .f64 x)).cell? ⟨w.heap.size, 0 + 1, none⟩ = some (.float .f64 0) := by
          rw [World.cell?_setCell_other _ _ _ _ (by intro e; injection e with e1 e2; omega)]
          exact hA2
        exact World.cell?_setCell_same _ _ _ h3
      · simp at hn; omega
set_option maxRecDepth 10000 in
theorem pairOf_c (w : World) (v : Value) (x : Rat) (L : List Nat) (hT : Tab w) (h : QIs w v x) (hF : Fr 2 x L true) :
    Calls Tryz.prog 117 #[v] w fun e w' => e = .returned (.tuple #[.agg #[.float .f64 (L.getD 0 0), .float .f64 (L.getD 1 0)], .int .i64 0]) ∧ G w w' := by
  have hlen := fr_len hF
  have HFr : Hid (∀ w1, G w w1 → _) := fun w1 g => front_c w1 v x 2 L true (hT.G g) (by omega) (h.G g) hF
  obtain ⟨a, k, c, a', k', c', rfl, -, -⟩ := h
  generalize decide (x.num < 0) = t at *
  obtain ⟨b, hb⟩ : ∃ b, b = L.getD 0 0 := ⟨_, rfl⟩
  obtain ⟨d, hd⟩ : ∃ d, d = L.getD 1 0 := ⟨_, rfl⟩
  rw [← hb, ← hd]
  have HBD : Hid (b = L.getD 0 0 ∧ d = L.getD 1 0) := ⟨hb, hd⟩
  clear hF hT hb hd
  go_enter Tryz.func117, Tryz.ntmps117
  go_wp2_with fail
  have g0 : G w (World.alloc (w.alloc (.cells #[.bool t, .slice a k c, .slice a' k' c'] 96)) (.cells #[.float .f64 0, .float .f64 0] 65)) := (((G.refl w).alloc _).alloc _)
  have R0 : Hid (Rec (World.alloc (w.alloc (.cells #[.bool t, .slice a k c, .slice a' k' c'] 96)) (.cells #[.float .f64 0, .float .f64 0] 65)) (w.heap.size) [.bool t, .slice a k c, .slice a' k' c']) := by
    have h := Rec.new3 w (.bool t) (.slice a k c) (.slice a' k' c') 96
    exact (Rec.G h ((G.refl (w.alloc (.cells #[.bool t, .slice a k c, .slice a' k' c'] 96))).alloc (.cells #[.float .f64 0, .float .f64 0] 65)))
  have R1 : Hid (Rec (World.alloc (w.alloc (.cells #[.bool t, .slice a k c, .slice a' k' c'] 96)) (.cells #[.float .f64 0, .float .f64 0] 65)) (w.heap.size + 1) [.float .f64 0, .float .f64 0]) := by
    have h := Rec.new2 (w.alloc (.cells #[.bool t, .slice a k c, .slice a' k' c'] 96)) (.float .f64 0) (.float .f64 0) 65
    rw [show (w.alloc (.cells #[.bool t, .slice a k c, .slice a' k' c'] 96)).heap.size = w.heap.size + 1 from by simp] at h
    exact h
  have hz0 : (World.alloc (w.alloc (.cells #[.bool t, .slice a k c, .slice a' k' c'] 96)) (.cells #[.float .f64 0, .float .f64 0] 65)).heap.size = w.heap.size + 2 := by simp
  generalize (World.alloc (w.alloc (.cells #[.bool t, .slice a k c, .slice a' k' c'] 96)) (.cells #[.float .f64 0, .float .f64 0] 65)) = w0 at *
  refine Calls.mono (P := Tryz.prog) (HFr.out w0 g0) ?_
  intro e1 w1 hs
  obtain ⟨v, rfl, g1, hv⟩ := hs
  have g01 := G.trans g0 g1
  have RP : Hid (Rec w1 (w.heap.size + 1) [.float .f64 0, .float .f64 0]) := Rec.G R1.out g1
  have hlt := RP.out.lt
  clear R0 R1 hz0 HFr g0 g1
  rcases hv with ⟨-, hv⟩ | ⟨h, -⟩
  case inr => cases h
  have HV : Hid (FSl w1 v L) := hv
  obtain ⟨pl, cl, rfl, -, -⟩ := hv
  obtain ⟨w2, hrun, g2, hc0, hc1⟩ := copy_pair w1 pl L L.length cl HV.out rfl hlen
  clear HV
  generalize L.length = n at *
  rw [← HBD.out.1] at hc0
  rw [← HBD.out.2] at hc1
  clear HBD
  have hSRP := Rec.f2 (Rec.G RP.out (g2))
  have hSRP_0 := hSRP.1
  have hSRP_1 := hSRP.2.1
  have hSRP_2 := hSRP.2.2.1
  have hSRP_3 := hSRP.2.2.2
  clear hSRP
  have hlt2 := g2.size
  go_wp2_with fail
  clear hrun hc0 hc1
  go_wp2_with fail
  have hT : Hid (Rec (World.setCell (World.setCell w2 ⟨w.heap.size + 1, 0, none⟩ (.float .f64 b)) ⟨w.heap.size + 1, 1, none⟩ (.float .f64 d)) (w.heap.size + 1) [.float .f64 b, .float .f64 d]) := Rec.set2 (Rec.G RP.out (g2))
  have g9 := Rec.g2 (b := w.heap.size + 1) (u := .float .f64 b) (v := .float .f64 d) (G.trans g01 g2) (by omega)
  generalize (World.setCell (World.setCell w2 ⟨w.heap.size + 1, 0, none⟩ (.float .f64 b)) ⟨w.heap.size + 1, 1, none⟩ (.float .f64 d)) = w9 at *
  have hF := Rec.f2 (Rec.G hT.out ((G.refl _)))
  have hF_0 := hF.1
  have hF_1 := hF.2.1
  have hF_2 := hF.2.2.1
  have hF_3 := hF.2.2.2
  clear hF
  refine bodyPost_ret (v := .tuple #[.agg #[.float .f64 b, .float .f64 d], .int .i64 0]) (by simp [results, Tryz.results117, go_sem, *]) rfl ?_
  exact ⟨rfl, g9⟩
end Go.Proofs.YtielcpkcfpbanacGreatDoor.EN
namespace Go.Proofs.YtielcpkcfpbanacGreatDoor.EN
open Go.ChangeShapes Go.WideShapes Go.ChangeAt Go.RowKit
attribute [local go_sem] run_store_flt

theorem fsl_rec {w : World} {b x y : Nat} (h : Rec w b [.float .f64 x, .float .f64 y]) : FSl w (.slice (some ⟨b, 0, none⟩) 2 2) [x, y] := by
  obtain ⟨h1, h2, -, -⟩ := h.f2
  refine ⟨_, 2, rfl, Nat.le_refl _, fun i hi => ⟨b, 0, rfl, h.lt, ?_⟩⟩
  have : i = 0 ∨ i = 1 := by simp at hi; omega
  rcases this with rfl | rfl
  · exact h1
  · exact h2

theorem equal_flt (u v : Nat) (w : World) : (Op.equalIn 9999 26 (.float .f64 u) (.float .f64 v)).run Tryz.prog w = .ok (FloatKind.f64.format.order u v == some .eq) w := by kernel_rfl
set_option maxRecDepth 10000 in
theorem value_c (w : World) (x y : Nat) (L : List Nat) (hT : Tab w) (hx : x < 2 ^ 64) (hy : y < 2 ^ 64) (hfx : fex x < 2047) (hfy : fex y < 2047) (hF : Fr 2 (Uz ([x, y].map fz).sum) L true)
    (h1 : (FloatKind.f64.format.order (L.getD 0 0) x == some .eq) = true) (h2 : (FloatKind.f64.format.order (L.getD 1 0) y == some .eq) = true) :
    Calls Tryz.prog 116 #[.agg #[.float .f64 x, .float .f64 y]] w (RetQE w (Uz ([x, y].map fz).sum) 0) := by
  have hfin : Fin [x, y] := by
    intro b hb
    simp at hb
    rcases hb with rfl | rfl <;> assumption
  have hlt : ∀ b ∈ [x, y], b < 2 ^ 64 := by
    intro b hb
    simp at hb
    rcases hb with rfl | rfl <;> assumption
  have HR : Hid (∀ w1 v, G w w1 → FSl w1 v [x, y] → _) := fun w1 v g h => read_c w1 v [x, y] (hT.G g) h hlt (by simp)
  have HT2 : Hid (∀ w2 v, G w w2 → NSl w2 v ([x, y].map fz) → _) := fun w2 v g hv => total_of w2 v [x, y] (hT.G g) hv (by simp)
  have HP : Hid (∀ w2 v, G w w2 → QIs w2 v (Uz ([x, y].map fz).sum) → _) := fun w2 v g hv => pairOf_c w2 v _ L (hT.G g) hv hF
  have HFin : Hid (Fin [x, y]) := hfin
  clear hfin hlt hT hx hy hfx hfy hF
  obtain ⟨q, hq⟩ : ∃ q, q = Uz ([x, y].map fz).sum := ⟨_, rfl⟩
  rw [← hq] at HT2 HP ⊢
  generalize L.getD 0 0 = b at *
  generalize L.getD 1 0 = d at *
  clear hq
  go_enter Tryz.func116, Tryz.ntmps116
  go_wp2_with fail
  have g0 : G w (World.alloc (World.alloc (w.alloc (.cells #[.float .f64 x, .float .f64 y] 65)) (.cells #[.bool false, .slice none 0 0, .slice none 0 0] 96)) (.cells #[.float .f64 x, .float .f64 y] 26)) := ((((G.refl w).alloc _).alloc _).alloc _)
  have R0 : Hid (Rec (World.alloc (World.alloc (w.alloc (.cells #[.float .f64 x, .float .f64 y] 65)) (.cells #[.bool false, .slice none 0 0, .slice none 0 0] 96)) (.cells #[.float .f64 x, .float .f64 y] 26)) (w.heap.size) [.float .f64 x, .float .f64 y]) := by
    have h := Rec.new2 w (.float .f64 x) (.float .f64 y) 65
    exact (Rec.G (Rec.G h ((G.refl (w.alloc (.cells #[.float .f64 x, .float .f64 y] 65))).alloc (.cells #[.bool false, .slice none 0 0, .slice none 0 0] 96))) ((G.refl (World.alloc (w.alloc (.cells #[.float .f64 x, .float .f64 y] 65)) (.cells #[.bool false, .slice none 0 0, .slice none 0 0] 96))).alloc (.cells #[.float .f64 x, .float .f64 y] 26)))
  have R1 : Hid (Rec (World.alloc (World.alloc (w.alloc (.cells #[.float .f64 x, .float .f64 y] 65)) (.cells #[.bool false, .slice none 0 0, .slice none 0 0] 96)) (.cells #[.float .f64 x, .float .f64 y] 26)) (w.heap.size + 1) [.bool false, .slice none 0 0, .slice none 0 0]) := by
    have h := Rec.new3 (w.alloc (.cells #[.float .f64 x, .float .f64 y] 65)) (.bool false) (.slice none 0 0) (.slice none 0 0) 96
    rw [show (w.alloc (.cells #[.float .f64 x, .float .f64 y] 65)).heap.size = w.heap.size + 1 from by simp] at h
    exact (Rec.G h ((G.refl (World.alloc (w.alloc (.cells #[.float .f64 x, .float .f64 y] 65)) (.cells #[.bool false, .slice none 0 0, .slice none 0 0] 96))).alloc (.cells #[.float .f64 x, .float .f64 y] 26)))
  have R2 : Hid (Rec (World.alloc (World.alloc (w.alloc (.cells #[.float .f64 x, .float .f64 y] 65)) (.cells #[.bool false, .slice none 0 0, .slice none 0 0] 96)) (.cells #[.float .f64 x, .float .f64 y] 26)) (w.heap.size + 2) [.float .f64 x, .float .f64 y]) := by
    have h := Rec.new2 (World.alloc (w.alloc (.cells #[.float .f64 x, .float .f64 y] 65)) (.cells #[.bool false, .slice none 0 0, .slice none 0 0] 96)) (.float .f64 x) (.float .f64 y) 26
    rw [show (World.alloc (w.alloc (.cells #[.float .f64 x, .float .f64 y] 65)) (.cells #[.bool false, .slice none 0 0, .slice none 0 0] 96)).heap.size = w.heap.size + 2 from by simp] at h
    exact h
  have hz0 : (World.alloc (World.alloc (w.alloc (.cells #[.float .f64 x, .float .f64 y] 65)) (.cells #[.bool false, .slice none 0 0, .slice none 0 0] 96)) (.cells #[.float .f64 x, .float .f64 y] 26)).heap.size = w.heap.size + 3 := by simp
  generalize (World.alloc (World.alloc (w.alloc (.cells #[.float .f64 x, .float .f64 y] 65)) (.cells #[.bool false, .slice none 0 0, .slice none 0 0] 96)) (.cells #[.float .f64 x, .float .f64 y] 26)) = w0 at *
  refine Calls.mono (P := Tryz.prog) (HR.out w0 _ g0 (fsl_rec R2.out)) ?_
  intro e1 w1 hs
  obtain ⟨v, c, a, rfl, g1, hv⟩ := hs
  rcases hv with ⟨rfl, rfl, -, hv⟩ | ⟨i, -, -, -, hi1, hi2, -⟩
  case inr => exact absurd hi2 (fun h => not_fin HFin.out hi1 h)
  have g01 := G.trans g0 g1
  have HV : Hid (NSl w1 v ([x, y].map fz)) := hv
  have RX : Hid (Rec w1 w.heap.size [.float .f64 x, .float .f64 y]) := Rec.G R0.out g1
  have RQ : Hid (Rec w1 (w.heap.size + 1) [.bool false, .slice none 0 0, .slice none 0 0]) := Rec.G R1.out g1
  clear R0 R1 R2 HR hv hz0 g1 g0
  have hlt := RQ.out.lt
  go_wp2_with fail
  have g2 : G w1 (w1.alloc (.cells #[.int .i64 0, .int .i64 0] 29)) := ((G.refl w1).alloc _)
  have R0 : Hid (Rec (w1.alloc (.cells #[.int .i64 0, .int .i64 0] 29)) (w1.heap.size) [.int .i64 0, .int .i64 0]) := by
    have h := Rec.new2 w1 (.int .i64 0) (.int .i64 0) 29
    exact h
  have hz2 : (w1.alloc (.cells #[.int .i64 0, .int .i64 0] 29)).heap.size = w1.heap.size + 1 := by simp
  generalize (w1.alloc (.cells #[.int .i64 0, .int .i64 0] 29)) = w2 at *
  have g02 := G.trans g01 g2
  refine Calls.mono (P := Tryz.prog) (HT2.out w2 v g02 (NSl.G HV.out g2)) ?_
  intro e1 w3 hs
  obtain ⟨p, rfl, g3, hp⟩ := hs
  have HQ : Hid (QIs w3 p q) := hp
  obtain ⟨a8, k8, c8, a9, k9, c9, rfl, -, -⟩ := hp
  generalize decide (q.num < 0) = t9 at *
  have g13 := G.trans g2 g3
  clear HT2 HV R0 hz2 hlt
  go_wp2_with fail
  have g4 : G w3 (w3.alloc (.cells #[.bool t9, .slice a8 k8 c8, .slice a9 k9 c9] 96)) := ((G.refl w3).alloc _)
  have R0 : Hid (Rec (w3.alloc (.cells #[.bool t9, .slice a8 k8 c8, .slice a9 k9 c9] 96)) (w3.heap.size) [.bool t9, .slice a8 k8 c8, .slice a9 k9 c9]) := by
    have h := Rec.new3 w3 (.bool t9) (.slice a8 k8 c8) (.slice a9 k9 c9) 96
    exact h
  have hz4 : (w3.alloc (.cells #[.bool t9, .slice a8 k8 c8, .slice a9 k9 c9] 96)).heap.size = w3.heap.size + 1 := by simp
  generalize (w3.alloc (.cells #[.bool t9, .slice a8 k8 c8, .slice a9 k9 c9] 96)) = w4 at *
  have g14 := G.trans g13 g4
  refine Calls.mono (P := Tryz.prog) (HP.out w4 _ (G.trans g01 g14) (QIs.G HQ.out g4)) ?_
  rintro e1 w5 ⟨rfl, g5⟩
  have g15 := G.trans g14 g5
  have R5 : Hid (Rec w5 w3.heap.size [.bool t9, .slice a8 k8 c8, .slice a9 k9 c9]) := Rec.G R0.out g5
  have HQ5 : Hid (QIs w5 (.agg #[.bool t9, .slice a8 k8 c8, .slice a9 k9 c9]) q) := QIs.G HQ.out (G.trans g4 g5)
  have g05 := G.trans g01 g15
  have RX5 : Hid (Rec w5 w.heap.size [.float .f64 x, .float .f64 y]) := Rec.G RX.out g15
  have RQ5 : Hid (Rec w5 (w.heap.size + 1) [.bool false, .slice none 0 0, .slice none 0 0]) := Rec.G RQ.out g15
  clear HP HQ R0 RX RQ hz4 g15 g14 g13
  have hlt1 := RX5.out.lt
  have hlt2 := RQ5.out.lt
  have hlt3 := R5.out.lt
  have hSR5 := Rec.f3 (Rec.G R5.out (G.refl _))
  have hSR5_0 := hSR5.1
  have hSR5_1 := hSR5.2.1
  have hSR5_2 := hSR5.2.2.1
  have hSR5_3 := hSR5.2.2.2.1
  have hSR5_4 := hSR5.2.2.2.2.1
  have hSR5_5 := hSR5.2.2.2.2.2
  clear hSR5
  have hSRX5 := Rec.f2 (Rec.G RX5.out (G.refl _))
  have hSRX5_0 := hSRX5.1
  have hSRX5_1 := hSRX5.2.1
  have hSRX5_2 := hSRX5.2.2.1
  have hSRX5_3 := hSRX5.2.2.2
  clear hSRX5
  have hSRQ5 := Rec.f3 (Rec.G RQ5.out (G.refl _))
  have hSRQ5_0 := hSRQ5.1
  have hSRQ5_1 := hSRQ5.2.1
  have hSRQ5_2 := hSRQ5.2.2.1
  have hSRQ5_3 := hSRQ5.2.2.2.1
  have hSRQ5_4 := hSRQ5.2.2.2.2.1
  have hSRQ5_5 := hSRQ5.2.2.2.2.2
  clear hSRQ5
  have he1 := fun w => equal_flt b x w
  have he2 := fun w => equal_flt d y w
  rw [h1] at he1
  rw [h2] at he2
  clear h1 h2
  have HQ9 : Hid (QIs _ _ _) := QIs.set3 (u1 := .bool t9) (u2 := .slice a8 k8 c8) (u3 := .slice a9 k9 c9) HQ5.out RQ5.out trivial trivial trivial
  go_wp2_with fail
  have hT : Hid (Rec (World.setCell (World.setCell (World.setCell w5 ⟨w.heap.size + 1, 0, none⟩ (.bool t9)) ⟨w.heap.size + 1, 1, none⟩ (.slice a8 k8 c8)) ⟨w.heap.size + 1, 2, none⟩ (.slice a9 k9 c9)) (w.heap.size + 1) [.bool t9, .slice a8 k8 c8, .slice a9 k9 c9]) := Rec.set3 (Rec.G RQ5.out (G.refl _))
  have g9 := Rec.g3 (b := w.heap.size + 1) (u := .bool t9) (v := .slice a8 k8 c8) (x := .slice a9 k9 c9) (g05) (by omega)
  generalize (World.setCell (World.setCell (World.setCell w5 ⟨w.heap.size + 1, 0, none⟩ (.bool t9)) ⟨w.heap.size + 1, 1, none⟩ (.slice a8 k8 c8)) ⟨w.heap.size + 1, 2, none⟩ (.slice a9 k9 c9)) = w9 at *
  have hF := Rec.f3 (Rec.G hT.out ((G.refl _)))
  have hF_0 := hF.1
  have hF_1 := hF.2.1
  have hF_2 := hF.2.2.1
  have hF_3 := hF.2.2.2.1
  have hF_4 := hF.2.2.2.2.1
  have hF_5 := hF.2.2.2.2.2
  clear hF
  have hF_l := Rec.lt hT.out
  refine bodyPost_ret (v := .tuple #[.agg #[.bool t9, .slice a8 k8 c8, .slice a9 k9 c9], .int .i64 0]) (by simp [results, Tryz.results116, go_sem, *]) rfl ?_
  exact ⟨_, rfl, g9.alloc _, QIs.G HQ9.out ((G.refl _).alloc _)⟩
end Go.Proofs.YtielcpkcfpbanacGreatDoor.EN
namespace Go.Proofs.YtielcpkcfpbanacGreatDoor.EN
open Go.ChangeShapes Go.WideShapes Go.ChangeAt Go.RowKit
attribute [local go_sem] run_store_flt

set_option maxRecDepth 10000 in
theorem reckoned_c (w : World) (x1 y1 x2 y2 b d FR : Nat) (u v r : Rat)
    (HV1 : ∀ w1, G w w1 → Calls Tryz.prog 116 #[.agg #[.float .f64 x1, .float .f64 y1]] w1 (RetQE w1 u 0))
    (HV2 : ∀ w1, G w w1 → Calls Tryz.prog 116 #[.agg #[.float .f64 x2, .float .f64 y2]] w1 (RetQE w1 v 0))
    (HB : ∀ w1 a c, G w w1 → QIs w1 a u → QIs w1 c v → Calls Tryz.prog FR #[a, c] w1 (RetQE w1 r 0))
    (HE : ∀ args w, (callFunc FR args).run Tryz.prog w = .ok (.enter FR args) w)
    (HP : ∀ w1 a, G w w1 → QIs w1 a r → Calls Tryz.prog 117 #[a] w1 fun e w' => e = .returned (.tuple #[.agg #[.float .f64 b, .float .f64 d], .int .i64 0]) ∧ G w1 w') :
    Calls Tryz.prog 70 #[.agg #[.float .f64 x1, .float .f64 y1], .agg #[.float .f64 x2, .float .f64 y2], .func (.func FR) #[] #[]] w fun e w' => e = .returned (.tuple #[.agg #[.float .f64 b, .float .f64 d], .int .i64 0]) ∧ G w w' := by
  have H1 : Hid (∀ w1, G w w1 → _) := HV1
  have H2 : Hid (∀ w1, G w w1 → _) := HV2
  have H3 : Hid (∀ w1 a c, G w w1 → QIs w1 a u → QIs w1 c v → _) := HB
  have H4 : Hid (∀ w1 a, G w w1 → QIs w1 a r → _) := HP
  clear HV1 HV2 HB HP
  go_enter Tryz.func70, Tryz.ntmps70
  go_wp2_with fail
  have g0 : G w (World.alloc (World.alloc (w.alloc (.cells #[.float .f64 x1, .float .f64 y1] 65)) (.cells #[.float .f64 x2, .float .f64 y2] 65)) (.cells #[.float .f64 0, .float .f64 0] 65)) := ((((G.refl w).alloc _).alloc _).alloc _)
  have R0 : Hid (Rec (World.alloc (World.alloc (w.alloc (.cells #[.float .f64 x1, .float .f64 y1] 65)) (.cells #[.float .f64 x2, .float .f64 y2] 65)) (.cells #[.float .f64 0, .float .f64 0] 65)) (w.heap.size) [.float .f64 x1, .float .f64 y1]) := by
    have h := Rec.new2 w (.float .f64 x1) (.float .f64 y1) 65
    exact (Rec.G (Rec.G h ((G.refl (w.alloc (.cells #[.float .f64 x1, .float .f64 y1] 65))).alloc (.cells #[.float .f64 x2, .float .f64 y2] 65))) ((G.refl (World.alloc (w.alloc (.cells #[.float .f64 x1, .float .f64 y1] 65)) (.cells #[.float .f64 x2, .float .f64 y2] 65))).alloc (.cells #[.float .f64 0, .float .f64 0] 65)))
  have R1 : Hid (Rec (World.alloc (World.alloc (w.alloc (.cells #[.float .f64 x1, .float .f64 y1] 65)) (.cells #[.float .f64 x2, .float .f64 y2] 65)) (.cells #[.float .f64 0, .float .f64 0] 65)) (w.heap.size + 1) [.float .f64 x2, .float .f64 y2]) := by
    have h := Rec.new2 (w.alloc (.cells #[.float .f64 x1, .float .f64 y1] 65)) (.float .f64 x2) (.float .f64 y2) 65
    rw [show (w.alloc (.cells #[.float .f64 x1, .float .f64 y1] 65)).heap.size = w.heap.size + 1 from by simp] at h
    exact (Rec.G h ((G.refl (World.alloc (w.alloc (.cells #[.float .f64 x1, .float .f64 y1] 65)) (.cells #[.float .f64 x2, .float .f64 y2] 65))).alloc (.cells #[.float .f64 0, .float .f64 0] 65)))
  have R2 : Hid (Rec (World.alloc (World.alloc (w.alloc (.cells #[.float .f64 x1, .float .f64 y1] 65)) (.cells #[.float .f64 x2, .float .f64 y2] 65)) (.cells #[.float .f64 0, .float .f64 0] 65)) (w.heap.size + 2) [.float .f64 0, .float .f64 0]) := by
    have h := Rec.new2 (World.alloc (w.alloc (.cells #[.float .f64 x1, .float .f64 y1] 65)) (.cells #[.float .f64 x2, .float .f64 y2] 65)) (.float .f64 0) (.float .f64 0) 65
    rw [show (World.alloc (w.alloc (.cells #[.float .f64 x1, .float .f64 y1] 65)) (.cells #[.float .f64 x2, .float .f64 y2] 65)).heap.size = w.heap.size + 2 from by simp] at h
    exact h
  have hz0 : (World.alloc (World.alloc (w.alloc (.cells #[.float .f64 x1, .float .f64 y1] 65)) (.cells #[.float .f64 x2, .float .f64 y2] 65)) (.cells #[.float .f64 0, .float .f64 0] 65)).heap.size = w.heap.size + 3 := by simp
  generalize (World.alloc (World.alloc (w.alloc (.cells #[.float .f64 x1, .float .f64 y1] 65)) (.cells #[.float .f64 x2, .float .f64 y2] 65)) (.cells #[.float .f64 0, .float .f64 0] 65)) = w0 at *
  refine Calls.mono (P := Tryz.prog) (H1.out w0 g0) ?_
  intro e1 w1 hs
  obtain ⟨p, rfl, g1, hp⟩ := hs
  have HPu : Hid (QIs w1 p u) := hp
  obtain ⟨a8, k8, c8, a9, k9, c9, rfl, -, -⟩ := hp
  generalize decide (u.num < 0) = t9 at *
  have g01 := G.trans g0 g1
  have RB : Hid (Rec w1 (w.heap.size + 1) [.float .f64 x2, .float .f64 y2]) := Rec.G R1.out g1
  have RR : Hid (Rec w1 (w.heap.size + 1 + 1) [.float .f64 0, .float .f64 0]) := Rec.G R2.out g1
  clear H1 R0 R1 R2 hz0 g0 g1
  have hlt := RB.out.lt
  have hSRB := Rec.f2 (Rec.G RB.out (G.refl _))
  have hSRB_0 := hSRB.1
  have hSRB_1 := hSRB.2.1
  have hSRB_2 := hSRB.2.2.1
  have hSRB_3 := hSRB.2.2.2
  clear hSRB
  go_wp2_with fail
  clear hSRB_0 hSRB_1 hSRB_2 hSRB_3
  have g2 : G w1 (w1.alloc (.cells #[.bool t9, .slice a8 k8 c8, .slice a9 k9 c9] 96)) := ((G.refl w1).alloc _)
  have R0 : Hid (Rec (w1.alloc (.cells #[.bool t9, .slice a8 k8 c8, .slice a9 k9 c9] 96)) (w1.heap.size) [.bool t9, .slice a8 k8 c8, .slice a9 k9 c9]) := by
    have h := Rec.new3 w1 (.bool t9) (.slice a8 k8 c8) (.slice a9 k9 c9) 96
    exact h
  have hz2 : (w1.alloc (.cells #[.bool t9, .slice a8 k8 c8, .slice a9 k9 c9] 96)).heap.size = w1.heap.size + 1 := by simp
  generalize (w1.alloc (.cells #[.bool t9, .slice a8 k8 c8, .slice a9 k9 c9] 96)) = w2 at *
  have g02 := G.trans g01 g2
  refine Calls.mono (P := Tryz.prog) (H2.out w2 g02) ?_
  intro e1 w3 hs
  obtain ⟨q, rfl, g3, hq⟩ := hs
  have HQv : Hid (QIs w3 q v) := hq
  obtain ⟨a6, k6, c6, a7, k7, c7, rfl, -, -⟩ := hq
  generalize decide (v.num < 0) = t7 at *
  have R3 : Hid (Rec w3 w1.heap.size [.bool t9, .slice a8 k8 c8, .slice a9 k9 c9]) := Rec.G R0.out g3
  have HP3 : Hid (QIs w3 (.agg #[.bool t9, .slice a8 k8 c8, .slice a9 k9 c9]) u) := QIs.G HPu.out (G.trans g2 g3)
  have g13 := G.trans g2 g3
  clear H2 HPu R0 RB hlt hz2
  have hlt3 := R3.out.lt
  have hSR3 := Rec.f3 (Rec.G R3.out (G.refl _))
  have hSR3_0 := hSR3.1
  have hSR3_1 := hSR3.2.1
  have hSR3_2 := hSR3.2.2.1
  have hSR3_3 := hSR3.2.2.2.1
  have hSR3_4 := hSR3.2.2.2.2.1
  have hSR3_5 := hSR3.2.2.2.2.2
  clear hSR3
  go_wp2_with fail
  clear hSR3_0 hSR3_1 hSR3_2 hSR3_3 hSR3_4 hSR3_5 hlt3 HE R3
  have g4 : G w3 (w3.alloc (.cells #[.bool t7, .slice a6 k6 c6, .slice a7 k7 c7] 96)) := ((G.refl w3).alloc _)
  have R0 : Hid (Rec (w3.alloc (.cells #[.bool t7, .slice a6 k6 c6, .slice a7 k7 c7] 96)) (w3.heap.size) [.bool t7, .slice a6 k6 c6, .slice a7 k7 c7]) := by
    have h := Rec.new3 w3 (.bool t7) (.slice a6 k6 c6) (.slice a7 k7 c7) 96
    exact h
  have hz4 : (w3.alloc (.cells #[.bool t7, .slice a6 k6 c6, .slice a7 k7 c7] 96)).heap.size = w3.heap.size + 1 := by simp
  generalize (w3.alloc (.cells #[.bool t7, .slice a6 k6 c6, .slice a7 k7 c7] 96)) = w4 at *
  have g14 := G.trans g13 g4
  refine Calls.mono (P := Tryz.prog) (H3.out w4 _ _ (G.trans g01 g14) (QIs.G HP3.out g4) (QIs.G HQv.out g4)) ?_
  intro e1 w5 hs
  obtain ⟨s, rfl, g5, hs5⟩ := hs
  have HS : Hid (QIs w5 s r) := hs5
  obtain ⟨a4, k4, c4, a5, k5, c5, rfl, -, -⟩ := hs5
  generalize decide (r.num < 0) = t5 at *
  have g15 := G.trans g14 g5
  clear H3 HP3 HQv R0 hz4
  go_wp2_with fail
  have g6 : G w5 (w5.alloc (.cells #[.bool t5, .slice a4 k4 c4, .slice a5 k5 c5] 96)) := ((G.refl w5).alloc _)
  have R0 : Hid (Rec (w5.alloc (.cells #[.bool t5, .slice a4 k4 c4, .slice a5 k5 c5] 96)) (w5.heap.size) [.bool t5, .slice a4 k4 c4, .slice a5 k5 c5]) := by
    have h := Rec.new3 w5 (.bool t5) (.slice a4 k4 c4) (.slice a5 k5 c5) 96
    exact h
  have hz6 : (w5.alloc (.cells #[.bool t5, .slice a4 k4 c4, .slice a5 k5 c5] 96)).heap.size = w5.heap.size + 1 := by simp
  generalize (w5.alloc (.cells #[.bool t5, .slice a4 k4 c4, .slice a5 k5 c5] 96)) = w6 at *
  have g16 := G.trans g15 g6
  refine Calls.mono (P := Tryz.prog) (H4.out w6 _ (G.trans g01 g16) (QIs.G HS.out g6)) ?_
  rintro e1 w7 ⟨rfl, g7⟩
  have g17 := G.trans g16 g7
  clear H4 HS R0 hz6
  have hSRR := Rec.f2 (Rec.G RR.out (g17))
  have hSRR_0 := hSRR.1
  have hSRR_1 := hSRR.2.1
  have hSRR_2 := hSRR.2.2.1
  have hSRR_3 := hSRR.2.2.2
  clear hSRR
  go_wp2_with fail
  have hT : Hid (Rec (World.setCell (World.setCell w7 ⟨w.heap.size + 1 + 1, 0, none⟩ (.float .f64 b)) ⟨w.heap.size + 1 + 1, 1, none⟩ (.float .f64 d)) (w.heap.size + 1 + 1) [.float .f64 b, .float .f64 d]) := Rec.set2 (Rec.G RR.out (g17))
  have g9 := Rec.g2 (b := w.heap.size + 1 + 1) (u := .float .f64 b) (v := .float .f64 d) (G.trans g01 g17) (by omega)
  generalize (World.setCell (World.setCell w7 ⟨w.heap.size + 1 + 1, 0, none⟩ (.float .f64 b)) ⟨w.heap.size + 1 + 1, 1, none⟩ (.float .f64 d)) = w9 at *
  have hF := Rec.f2 (Rec.G hT.out ((G.refl _)))
  have hF_0 := hF.1
  have hF_1 := hF.2.1
  have hF_2 := hF.2.2.1
  have hF_3 := hF.2.2.2
  clear hF
  refine bodyPost_ret (v := .tuple #[.agg #[.float .f64 b, .float .f64 d], .int .i64 0]) (by simp [results, Tryz.results70, go_sem, *]) rfl ?_
  exact ⟨rfl, g9⟩

set_option maxRecDepth 10000 in
theorem pquo_c (w : World) (x1 y1 x2 y2 b d : Nat)
    (HR : ∀ w1, G w w1 → Calls Tryz.prog 70 #[.agg #[.float .f64 x1, .float .f64 y1], .agg #[.float .f64 x2, .float .f64 y2], .func (.func 74) #[] #[]] w1 fun e w' => e = .returned (.tuple #[.agg #[.float .f64 b, .float .f64 d], .int .i64 0]) ∧ G w1 w') :
    Calls Tryz.prog 37 #[.agg #[.float .f64 x1, .float .f64 y1], .agg #[.float .f64 x2, .float .f64 y2]] w fun e w' => e = .returned (.tuple #[.agg #[.float .f64 b, .float .f64 d], .int .i64 0]) ∧ G w w' := by
  have H1 : Hid (∀ w1, G w w1 → _) := HR
  clear HR
  go_enter Tryz.func37, Tryz.ntmps37
  go_wp2_with fail
  have g0 : G w (World.alloc (World.alloc (w.alloc (.cells #[.float .f64 x1, .float .f64 y1] 65)) (.cells #[.float .f64 x2, .float .f64 y2] 65)) (.cells #[.float .f64 0, .float .f64 0] 65)) := ((((G.refl w).alloc _).alloc _).alloc _)
  have R0 : Hid (Rec (World.alloc (World.alloc (w.alloc (.cells #[.float .f64 x1, .float .f64 y1] 65)) (.cells #[.float .f64 x2, .float .f64 y2] 65)) (.cells #[.float .f64 0, .float .f64 0] 65)) (w.heap.size) [.float .f64 x1, .float .f64 y1]) := by
    have h := Rec.new2 w (.float .f64 x1) (.float .f64 y1) 65
    exact (Rec.G (Rec.G h ((G.refl (w.alloc (.cells #[.float .f64 x1, .float .f64 y1] 65))).alloc (.cells #[.float .f64 x2, .float .f64 y2] 65))) ((G.refl (World.alloc (w.alloc (.cells #[.float .f64 x1, .float .f64 y1] 65)) (.cells #[.float .f64 x2, .float .f64 y2] 65))).alloc (.cells #[.float .f64 0, .float .f64 0] 65)))
  have R1 : Hid (Rec (World.alloc (World.alloc (w.alloc (.cells #[.float .f64 x1, .float .f64 y1] 65)) (.cells #[.float .f64 x2, .float .f64 y2] 65)) (.cells #[.float .f64 0, .float .f64 0] 65)) (w.heap.size + 1) [.float .f64 x2, .float .f64 y2]) := by
    have h := Rec.new2 (w.alloc (.cells #[.float .f64 x1, .float .f64 y1] 65)) (.float .f64 x2) (.float .f64 y2) 65
    rw [show (w.alloc (.cells #[.float .f64 x1, .float .f64 y1] 65)).heap.size = w.heap.size + 1 from by simp] at h
    exact (Rec.G h ((G.refl (World.alloc (w.alloc (.cells #[.float .f64 x1, .float .f64 y1] 65)) (.cells #[.float .f64 x2, .float .f64 y2] 65))).alloc (.cells #[.float .f64 0, .float .f64 0] 65)))
  have R2 : Hid (Rec (World.alloc (World.alloc (w.alloc (.cells #[.float .f64 x1, .float .f64 y1] 65)) (.cells #[.float .f64 x2, .float .f64 y2] 65)) (.cells #[.float .f64 0, .float .f64 0] 65)) (w.heap.size + 2) [.float .f64 0, .float .f64 0]) := by
    have h := Rec.new2 (World.alloc (w.alloc (.cells #[.float .f64 x1, .float .f64 y1] 65)) (.cells #[.float .f64 x2, .float .f64 y2] 65)) (.float .f64 0) (.float .f64 0) 65
    rw [show (World.alloc (w.alloc (.cells #[.float .f64 x1, .float .f64 y1] 65)) (.cells #[.float .f64 x2, .float .f64 y2] 65)).heap.size = w.heap.size + 2 from by simp] at h
    exact h
  have hz0 : (World.alloc (World.alloc (w.alloc (.cells #[.float .f64 x1, .float .f64 y1] 65)) (.cells #[.float .f64 x2, .float .f64 y2] 65)) (.cells #[.float .f64 0, .float .f64 0] 65)).heap.size = w.heap.size + 3 := by simp
  generalize (World.alloc (World.alloc (w.alloc (.cells #[.float .f64 x1, .float .f64 y1] 65)) (.cells #[.float .f64 x2, .float .f64 y2] 65)) (.cells #[.float .f64 0, .float .f64 0] 65)) = w0 at *
  refine Calls.mono (P := Tryz.prog) (H1.out w0 g0) ?_
  rintro e1 w1 ⟨rfl, g1⟩
  have RR : Hid (Rec w1 (w.heap.size + 1 + 1) [.float .f64 0, .float .f64 0]) := Rec.G R2.out g1
  clear H1 R0 R1 R2 hz0
  have hSRR := Rec.f2 (Rec.G RR.out (G.refl _))
  have hSRR_0 := hSRR.1
  have hSRR_1 := hSRR.2.1
  have hSRR_2 := hSRR.2.2.1
  have hSRR_3 := hSRR.2.2.2
  clear hSRR
  go_wp2_with fail
  have hT : Hid (Rec (World.setCell (World.setCell w1 ⟨w.heap.size + 1 + 1, 0, none⟩ (.float .f64 b)) ⟨w.heap.size + 1 + 1, 1, none⟩ (.float .f64 d)) (w.heap.size + 1 + 1) [.float .f64 b, .float .f64 d]) := Rec.set2 (Rec.G RR.out (G.refl _))
  have g9 := Rec.g2 (b := w.heap.size + 1 + 1) (u := .float .f64 b) (v := .float .f64 d) (G.trans g0 g1) (by omega)
  generalize (World.setCell (World.setCell w1 ⟨w.heap.size + 1 + 1, 0, none⟩ (.float .f64 b)) ⟨w.heap.size + 1 + 1, 1, none⟩ (.float .f64 d)) = w9 at *
  have hF := Rec.f2 (Rec.G hT.out ((G.refl _)))
  have hF_0 := hF.1
  have hF_1 := hF.2.1
  have hF_2 := hF.2.2.1
  have hF_3 := hF.2.2.2
  clear hF
  refine bodyPost_ret (v := .tuple #[.agg #[.float .f64 b, .float .f64 d], .int .i64 0]) (by simp [results, Tryz.results37, go_sem, *]) rfl ?_
  exact ⟨rfl, g9⟩
end Go.Proofs.YtielcpkcfpbanacGreatDoor.EN
namespace Go.Proofs.YtielcpkcfpbanacGreatDoor.EN
open Go.ChangeShapes Go.WideShapes Go.ChangeAt Go.RowKit
attribute [local go_sem] run_store_flt

theorem quo_third_c (w : World) (hT : Tab w) : Calls Tryz.prog 37 #[.agg #[.float .f64 4607182418800017408, .float .f64 0], .agg #[.float .f64 4613937818241073152, .float .f64 0]] w
    fun e w' => e = .returned (.tuple #[.agg #[.float .f64 4599676419421066581, .float .f64 4356482039543059797], .int .i64 0]) ∧ G w w' := by
  obtain ⟨b1, b2, b3⟩ := third_bounds
  have e1 : (FloatKind.f64.format.order 4607182418800017408 4607182418800017408 == some .eq) = true := by decide +kernel
  have e2 : (FloatKind.f64.format.order 0 0 == some .eq) = true := by decide +kernel
  have e3 : (FloatKind.f64.format.order 4613937818241073152 4613937818241073152 == some .eq) = true := by decide +kernel
  refine pquo_c w _ _ _ _ _ _ fun w1 g => ?_
  have hT1 := hT.G g
  refine reckoned_c w1 _ _ _ _ _ _ _ (Uz ([4607182418800017408, 0].map fz).sum) (Uz ([4613937818241073152, 0].map fz).sum) (Uz ([4607182418800017408, 0].map fz).sum / Uz ([4613937818241073152, 0].map fz).sum) ?_ ?_ ?_ (fun _ _ => by kernel_rfl) ?_
  · exact fun w2 g2 => value_c w2 _ _ _ (hT1.G g2) (by decide) (by decide) (by decide +kernel) (by decide +kernel) pair_one e1 e2
  · exact fun w2 g2 => value_c w2 _ _ _ (hT1.G g2) (by decide) (by decide) (by decide +kernel) (by decide +kernel) pair_three e3 e2
  · intro w2 a c g2 ha hc
    have h := qquo_c w2 a c _ _ 80 (by omega) (by omega) (hT1.G g2) ha hc b1 b2
    rw [if_neg b3, if_neg b3] at h
    exact h
  · exact fun w2 a g2 ha => pairOf_c w2 a _ _ (hT1.G g2) ha pair_third

theorem samebits_c (w : World) (b : Nat) : Calls Tryz.prog 23 #[.float .f64 b, .float .f64 b] w fun e w' => e = .returned (.bool true) ∧ G w w' := by
  have htb := fun w => tobits_r b w
  go_enter Tryz.func23, Tryz.ntmps23
  go_wp2_with fail
  go_ret
  exact ⟨rfl, G.refl _⟩

theorem samelists_c (w : World) (v u : Value) (l : List Nat) (hv : FSl w v l) (hu : FSl w u l) (hn : l.length ≤ 100000) :
    Calls Tryz.prog 19 #[v, u, .func (.func 23) #[] #[]] w fun e w' => e = .returned (.bool true) ∧ G w w' := by
  obtain ⟨pa, ca, rfl, -, hr1⟩ := hv
  obtain ⟨pb, cb, rfl, -, hr2⟩ := hu
  have H1 : Hid _ := hr1
  have H2 : Hid _ := hr2
  clear hr1 hr2
  have hcf : ∀ args w, (callFunc 23 args).run Tryz.prog w = .ok (.enter 23 args) w := fun _ _ => by kernel_rfl
  obtain ⟨n, hn'⟩ : ∃ n, n = l.length := ⟨_, rfl⟩
  rw [← hn'] at hn ⊢
  have HN : Hid (n = l.length) := hn'
  clear hn'
  go_enter Tryz.func19, Tryz.ntmps19
  go_wp2_with fail
  go_loopw [15] (fun vk wr => ∃ k : Nat, k ≤ n ∧ vk = .int .i64 k ∧ G w wr) (fun vk _ => n - (intOf vk).toNat)
  case atStart => exact ⟨0, Nat.zero_le _, rfl, G.refl _⟩
  case round =>
    obtain ⟨k, hk, rfl, hG⟩ := hrel
    by_cases hkn : k < n
    · obtain ⟨b1, o1, rfl, hB1, hc1'⟩ := H1.out k (by rw [← HN.out]; exact hkn)
      obtain ⟨b2, o2, rfl, hB2, hc2'⟩ := H2.out k (by rw [← HN.out]; exact hkn)
      have hc1 := hG.cell (p := ⟨b1, o1 + k, none⟩) hB1 hc1'
      have hc2 := hG.cell (p := ⟨b2, o2 + k, none⟩) hB2 hc2'
      generalize l.getD k 0 = x at *
      have hs := hG.size
      have hb1 : b1 < wr.heap.size := by omega
      have hb2 : b2 < wr.heap.size := by omega
      clear hc1' hc2' hB1 hB2
      go_wp2_with fail
      refine region_gw (by kernel_rfl) (by kernel_rfl) ?_
      intro W hW
      have hq1 := gw_cell (w := W) (a := ⟨b1, o1 + k, none⟩) (x := .float .f64 x) (by rw [hW]; first | (simp; done) | (simp; omega) | omega) (by rw [hW]; first | assumption | (simp [go_sem]; done) | (simp [*, go_sem]; done))
      have hq2 := gw_cell (w := W) (a := ⟨b2, o2 + k, none⟩) (x := .float .f64 x) (by rw [hW]; first | (simp; done) | (simp; omega) | omega) (by rw [hW]; first | assumption | (simp [go_sem]; done) | (simp [*, go_sem]; done))
      clear hW
      repeat (go_big_quiet_step (exact quiet_gw (samebits_c _ _)))
      refine wpQuiet_nil ?_
      clear hq1 hq2
      intro w5 hw5
      have hG5 := G.trans hG hw5
      clear hw5 hc1 hc2
      go_wp2_with fail
      go_roundw
      case rel => exact ⟨k + 1, by omega, by go_num, hG5⟩
      case measure => simp only [intOf]; omega
    · obtain rfl : k = n := by omega
      go_wp2_with fail
      go_ret
      exact ⟨rfl, hG⟩
end Go.Proofs.YtielcpkcfpbanacGreatDoor.EN
namespace Go.Proofs.YtielcpkcfpbanacGreatDoor.EN
open Go.ChangeShapes Go.WideShapes Go.ChangeAt Go.RowKit
attribute [local go_sem] run_store_flt

theorem fsl_three {w : World} {b x y z : Nat} (h : Rec w b [.float .f64 x, .float .f64 y, .float .f64 z]) : FSl w (.slice (some ⟨b, 0, none⟩) 3 3) [x, y, z] := by
  obtain ⟨h1, h2, h3, -, -, -⟩ := h.f3
  refine ⟨_, 3, rfl, Nat.le_refl _, fun i hi => ⟨b, 0, rfl, h.lt, ?_⟩⟩
  have : i = 0 ∨ i = 1 ∨ i = 2 := by simp at hi; omega
  rcases this with rfl | rfl | rfl
  · exact h1
  · exact h2
  · exact h3

set_option maxRecDepth 10000 in
theorem several_c (w : World) (hT : Tab w) : Calls Tryz.prog 7 #[] w fun e w' => e = .returned (.bool true) ∧ G w w' := by
  have hfin : Fin l3 := by
    intro b hb
    simp [l3] at hb
    rcases hb with rfl | rfl | rfl <;> decide +kernel
  have hlt : ∀ b ∈ l3, b < 2 ^ 64 := by
    intro b hb
    simp [l3] at hb
    rcases hb with rfl | rfl | rfl <;> decide
  have HO : Hid (∀ w1 v, G w w1 → FSl w1 v l3 → Calls Tryz.prog 16 #[v] w1 fun e w' => ∃ v, e = .returned (.tuple #[v, .agg #[.int .i64 0, .int .i64 0]]) ∧ G w1 w' ∧ FSl w' v [4861130398305394688, 4607182418800017408, 4307583784117748259]) := fun w1 v g h => by
    refine (list_c w1 v l3 _ true (hT.G g) h hlt (by simp [l3]) (by simp) (fun _ => three_floats)).mono ?_
    rintro e w' ⟨v, c, a, rfl, g1, hv⟩
    rcases hv with ⟨-, rfl, ⟨-, rfl, hv⟩ | ⟨h, -⟩⟩ | ⟨i, -, -, -, hi1, hi2, -⟩
    · exact ⟨v, rfl, g1, hv⟩
    · cases h
    · exact absurd hi2 (fun h => not_fin hfin hi1 h)
  have HQ : Hid (∀ w1, G w w1 → _) := fun w1 g => quo_third_c w1 (hT.G g)
  have HL : Hid (∀ w1 v u, FSl w1 v [4861130398305394688, 4607182418800017408, 4307583784117748259] → FSl w1 u [4861130398305394688, 4607182418800017408, 4307583784117748259] → _) := fun w1 v u h1 h2 => samelists_c w1 v u _ h1 h2 (by simp)
  have e1 : (FloatKind.f64.format.order 4599676419421066581 4599676419421066581 == some .eq) = true := by decide +kernel
  have e2 : (FloatKind.f64.format.order 4356482039543059797 4356482039543059797 == some .eq) = true := by decide +kernel
  clear hfin hlt hT
  go_enter Tryz.func7, Tryz.ntmps7
  go_wp2_with fail
  have g0 : G w (w.alloc (.cells #[.float .f64 4607182418800017408, .float .f64 4861130398305394688, .float .f64 4307583784117748259] 26)) := ((G.refl w).alloc _)
  have R0 : Hid (Rec (w.alloc (.cells #[.float .f64 4607182418800017408, .float .f64 4861130398305394688, .float .f64 4307583784117748259] 26)) (w.heap.size) [.float .f64 4607182418800017408, .float .f64 4861130398305394688, .float .f64 4307583784117748259]) := by
    have h := Rec.new3 w (.float .f64 4607182418800017408) (.float .f64 4861130398305394688) (.float .f64 4307583784117748259) 26
    exact h
  have hz0 : (w.alloc (.cells #[.float .f64 4607182418800017408, .float .f64 4861130398305394688, .float .f64 4307583784117748259] 26)).heap.size = w.heap.size + 1 := by simp
  generalize (w.alloc (.cells #[.float .f64 4607182418800017408, .float .f64 4861130398305394688, .float .f64 4307583784117748259] 26)) = w0 at *
  refine Calls.mono (P := Tryz.prog) (HO.out w0 _ g0 (fsl_three R0.out)) ?_
  intro e w1 hs
  obtain ⟨v, rfl, g1, hv⟩ := hs
  have g01 := G.trans g0 g1
  have HV : Hid (FSl w1 v _) := hv
  clear HO R0 hz0 hv
  go_wp2_with fail
  have g2 : G w1 (w1.alloc (.cells #[.int .i64 0, .int .i64 0] 29)) := ((G.refl w1).alloc _)
  have R0 : Hid (Rec (w1.alloc (.cells #[.int .i64 0, .int .i64 0] 29)) (w1.heap.size) [.int .i64 0, .int .i64 0]) := by
    have h := Rec.new2 w1 (.int .i64 0) (.int .i64 0) 29
    exact h
  have hz2 : (w1.alloc (.cells #[.int .i64 0, .int .i64 0] 29)).heap.size = w1.heap.size + 1 := by simp
  generalize (w1.alloc (.cells #[.int .i64 0, .int .i64 0] 29)) = w2 at *
  have RF : Hid (Rec _ _ _) := R0
  refine Calls.mono (P := Tryz.prog) (HQ.out w2 (G.trans g01 g2)) ?_
  rintro e w3 ⟨rfl, g3⟩
  have g13 := G.trans g2 g3
  have RF3 : Hid (Rec w3 w1.heap.size [.int .i64 0, .int .i64 0]) := Rec.G RF.out g3
  have HV3 : Hid (FSl w3 v _) := FSl.G HV.out g13
  clear HQ R0 RF HV hz2
  have hlt := RF3.out.lt
  have hSRF3 := Rec.f2 (Rec.G RF3.out (G.refl _))
  have hSRF3_0 := hSRF3.1
  have hSRF3_1 := hSRF3.2.1
  have hSRF3_2 := hSRF3.2.2.1
  have hSRF3_3 := hSRF3.2.2.2
  clear hSRF3
  go_wp2_with fail
  clear hSRF3_0 hSRF3_1 hSRF3_2 hSRF3_3 hlt
  have g4 : G w3 (World.alloc (w3.alloc (.cells #[.float .f64 4599676419421066581, .float .f64 4356482039543059797] 65)) (.cells #[.float .f64 4861130398305394688, .float .f64 4607182418800017408, .float .f64 4307583784117748259] 26)) := (((G.refl w3).alloc _).alloc _)
  have R0 : Hid (Rec (World.alloc (w3.alloc (.cells #[.float .f64 4599676419421066581, .float .f64 4356482039543059797] 65)) (.cells #[.float .f64 4861130398305394688, .float .f64 4607182418800017408, .float .f64 4307583784117748259] 26)) (w3.heap.size) [.float .f64 4599676419421066581, .float .f64 4356482039543059797]) := by
    have h := Rec.new2 w3 (.float .f64 4599676419421066581) (.float .f64 4356482039543059797) 65
    exact (Rec.G h ((G.refl (w3.alloc (.cells #[.float .f64 4599676419421066581, .float .f64 4356482039543059797] 65))).alloc (.cells #[.float .f64 4861130398305394688, .float .f64 4607182418800017408, .float .f64 4307583784117748259] 26)))
  have R1 : Hid (Rec (World.alloc (w3.alloc (.cells #[.float .f64 4599676419421066581, .float .f64 4356482039543059797] 65)) (.cells #[.float .f64 4861130398305394688, .float .f64 4607182418800017408, .float .f64 4307583784117748259] 26)) (w3.heap.size + 1) [.float .f64 4861130398305394688, .float .f64 4607182418800017408, .float .f64 4307583784117748259]) := by
    have h := Rec.new3 (w3.alloc (.cells #[.float .f64 4599676419421066581, .float .f64 4356482039543059797] 65)) (.float .f64 4861130398305394688) (.float .f64 4607182418800017408) (.float .f64 4307583784117748259) 26
    rw [show (w3.alloc (.cells #[.float .f64 4599676419421066581, .float .f64 4356482039543059797] 65)).heap.size = w3.heap.size + 1 from by simp] at h
    exact h
  have hz4 : (World.alloc (w3.alloc (.cells #[.float .f64 4599676419421066581, .float .f64 4356482039543059797] 65)) (.cells #[.float .f64 4861130398305394688, .float .f64 4607182418800017408, .float .f64 4307583784117748259] 26)).heap.size = w3.heap.size + 2 := by simp
  generalize (World.alloc (w3.alloc (.cells #[.float .f64 4599676419421066581, .float .f64 4356482039543059797] 65)) (.cells #[.float .f64 4861130398305394688, .float .f64 4607182418800017408, .float .f64 4307583784117748259] 26)) = w4 at *
  have g14 := G.trans g13 g4
  refine Calls.mono (P := Tryz.prog) (HL.out w4 _ _ (FSl.G HV3.out g4) (fsl_three R1.out)) ?_
  rintro e w5 ⟨rfl, g5⟩
  have RP : Hid (Rec w5 w3.heap.size _) := Rec.G R0.out g5
  clear HL R0 R1 RF3 HV3 hz4
  have hlt := RP.out.lt
  have hSRP := Rec.f2 (Rec.G RP.out (G.refl _))
  have hSRP_0 := hSRP.1
  have hSRP_1 := hSRP.2.1
  have hSRP_2 := hSRP.2.2.1
  have hSRP_3 := hSRP.2.2.2
  clear hSRP
  go_wp2_with fail
  go_ret
  exact ⟨rfl, G.trans g01 (G.trans g14 g5)⟩
end Go.Proofs.YtielcpkcfpbanacGreatDoor.EN
