/- What is proved here: contracts of the reference's ratios: SetFrac of a new ratio, whatever sign the lower part has, over this seat's translation.
What is proved here: the law's own fraction of two whole numbers, over this seat's translation. -/
import Derived.Test.YtahfkkkfpcdjaabGreatDoorC23
import Derived.Test.YtahfkkkfpcdjaabGreatDoorC22
import Derived.Test.YtahfkkkfpcdjaabGreatDoorC13
import Derived.Test.YtahfkkkfpcdjaabGreatDoorC31
import Derived.Test.YtahfkkkfpcdjaabGreatDoorC32
namespace Go.Proofs.YtahfkkkfpcdjaabGreatDoor
open Go.ChangeShapes Go.WideShapes Go.ChangeAt Go.RowKit
open BN

theorem Rec.new4 (w : World) (x y z u : Value) (t : TypeId) : Rec (w.alloc (.cells #[x, y, z, u] t)) w.heap.size [x, y, z, u] := Rec.new w [x, y, z, u] t
theorem Rec.f4 {w : World} {b : Nat} {x y z u : Value} (h : Rec w b [x, y, z, u]) : w.cell? ⟨b, 0, none⟩ = some x ∧ w.cell? ⟨b, 1, none⟩ = some y ∧ w.cell? ⟨b, 2, none⟩ = some z ∧ w.cell? ⟨b, 3, none⟩ = some u ∧ w.frozen? ⟨b, 0, none⟩ = false ∧ w.frozen? ⟨b, 1, none⟩ = false ∧ w.frozen? ⟨b, 2, none⟩ = false ∧ w.frozen? ⟨b, 3, none⟩ = false :=
  ⟨h.cell 0, h.cell 1, h.cell 2, h.cell 3, h.frozen 0, h.frozen 1, h.frozen 2, h.frozen 3⟩
theorem num_cells {w : World} {v : Value} {n b : Nat} {x y z u u1 u2 u3 u4 : Value} (h : Num w v n) (r : Rec w b [x, y, z, u]) (hx : ∀ c ∈ [x, y, z, u], ∀ k i, c ≠ .int k i) :
    Num ((((w.setCell ⟨b, 0, none⟩ u1).setCell ⟨b, 1, none⟩ u2).setCell ⟨b, 2, none⟩ u3).setCell ⟨b, 3, none⟩ u4) v n := by
  obtain ⟨m, hm, hcm, hv⟩ := h
  refine ⟨m, ?_, hcm, hv⟩
  rcases Sl.cases hm with ⟨rfl, a, c, rfl⟩ | ⟨hne, b2, o, c, rfl, hcc, hb, hr⟩
  · exact ⟨hm.1, Or.inl ⟨rfl, a, c, rfl⟩⟩
  · have hbb : b2 ≠ b := by
      intro e
      subst e
      have h0 := hr 0 (List.length_pos_iff.2 hne)
      rw [r.cell] at h0
      exact hx _ (List.mem_of_getElem? h0) _ _ rfl
    refine ⟨hm.1, Or.inr ⟨b2, o, c, rfl, hcc, by simpa [World.setCell] using hb, fun i hi => ?_⟩⟩
    rw [World.cell?_setCell_other _ _ _ _ (by intro e; injection e with e1; exact hbb e1.symm), World.cell?_setCell_other _ _ _ _ (by intro e; injection e with e1; exact hbb e1.symm), World.cell?_setCell_other _ _ _ _ (by intro e; injection e with e1; exact hbb e1.symm), World.cell?_setCell_other _ _ _ _ (by intro e; injection e with e1; exact hbb e1.symm)]
    exact hr i hi

/-- A ratio of whole numbers in lowest terms. -/
theorem frac_rat {sa sb : Int} (h : sb ≠ 0) : ((sa : Rat) / (sb : Rat)) = mkRat (if sb < 0 then -sa else sa) sb.natAbs := by
  rw [Rat.mkRat_eq_div]
  by_cases h0 : sb < 0
  · rw [if_pos h0]
    have e : ((sb.natAbs : Nat) : Rat) = -((sb : Int) : Rat) := by
      have : ((sb.natAbs : Nat) : Int) = -sb := by omega
      show (((sb.natAbs : Nat) : Int) : Rat) = _
      rw [this]; rfl
    rw [e]
    rw [Rat.div_def, Rat.div_def]
    have hn : ((sb : Int) : Rat) ≠ 0 := by intro e2; have := congrArg Rat.num e2; exact h this
    have e3 : (-((sb : Int) : Rat))⁻¹ = -(((sb : Int) : Rat)⁻¹) := by
      refine Rat.inv_eq_of_mul_eq_one ?_
      rw [Rat.neg_mul, Rat.mul_neg, Rat.neg_neg, Rat.mul_inv_cancel _ hn]
    rw [e3, Rat.mul_neg]
    show _ = -((-(sa : Rat)) * _)
    rw [Rat.neg_mul, Rat.neg_neg]
  · rw [if_neg h0]
    have e : ((sb.natAbs : Nat) : Rat) = ((sb : Int) : Rat) := by
      have : ((sb.natAbs : Nat) : Int) = sb := by omega
      show (((sb.natAbs : Nat) : Int) : Rat) = _
      rw [this]
    rw [e]
theorem frac_low {z : Int} {d : Nat} (hd : 0 < d) {q : Rat} (h : q = mkRat z d) : q.num = Int.tdiv z (Nat.gcd z.natAbs d : Nat) ∧ q.den = d / Nat.gcd z.natAbs d := by
  have hg : 0 < Nat.gcd z.natAbs d := Nat.gcd_pos_of_pos_right _ hd
  obtain ⟨a, ha⟩ := Nat.gcd_dvd_right z.natAbs d
  have hz : z = Int.tdiv z (Nat.gcd z.natAbs d : Nat) * ((Nat.gcd z.natAbs d : Nat) : Int) := by
    rw [Int.tdiv_mul_cancel (Int.ofNat_dvd_left.2 (Nat.gcd_dvd_left _ _))]
  have hda : d / Nat.gcd z.natAbs d * Nat.gcd z.natAbs d = d := Nat.div_mul_cancel (Nat.gcd_dvd_right _ _)
  have hd2 : 0 < d / Nat.gcd z.natAbs d := Nat.div_pos (Nat.le_of_dvd hd (Nat.gcd_dvd_right _ _)) hg
  have hab : (Int.tdiv z (Nat.gcd z.natAbs d : Nat)).natAbs = z.natAbs / Nat.gcd z.natAbs d := by
    rw [Int.natAbs_tdiv, Int.natAbs_natCast]; rfl
  refine EN.rat_low hd2 (by rw [hab]; exact Nat.gcd_div_gcd_div_gcd_of_pos_right hd) ?_
  have h1 := EN.mk_cross hd h
  have hgi : ((Nat.gcd z.natAbs d : Nat) : Int) ≠ 0 := by omega
  refine Int.eq_of_mul_eq_mul_right hgi ?_
  rw [show Int.tdiv z (Nat.gcd z.natAbs d : Nat) * (q.den : Int) * ((Nat.gcd z.natAbs d : Nat) : Int) = Int.tdiv z (Nat.gcd z.natAbs d : Nat) * ((Nat.gcd z.natAbs d : Nat) : Int) * q.den from by ac_rfl, ← hz, h1, Int.mul_assoc, ← Int.natCast_mul, hda]

set_option maxRecDepth 10000 in
set_option maxHeartbeats 2000000 in
theorem setFrac_any (w : World) (bz ba oa bb ob : Nat) (sa sb : Int) (K : Nat) (hK : K ≤ 300000) (hA2 : sa.natAbs < 2 ^ (32 * K)) (hB2 : sb.natAbs < 2 ^ (32 * K)) (hB0 : sb ≠ 0) (hba : ba < w.heap.size) (hbb : bb < w.heap.size)
    (hz : Rec w bz [.bool false, .slice none 0 0, .bool false, .slice none 0 0]) (ha : IntIs w ba oa sa) (hb : IntIs w bb ob sb) :
    Calls Tryz.prog 62 #[.pointer (some ⟨bz, 0, none⟩), .pointer (some ⟨ba, oa, none⟩), .pointer (some ⟨bb, ob, none⟩)] w (NormTo w bz ((sa : Rat) / (sb : Rat)).num ((sa : Rat) / (sb : Rat)).den) := by
  have hbz := hz.lt
  have HSA : Hid (∀ w1 p, G w w1 → NI w w1 p 0 → _) := fun w1 p g h => set_c w1 p 0 ba oa 0 sa K (by omega) hA2 h.2.1 (G.lt g hba) h.2.2 (ha.G hba g)
  have HSB : Hid (∀ w1 p, G w w1 → NI w w1 p 0 → _) := fun w1 p g h => set_c w1 p 0 bb ob 0 sb K (by omega) hB2 h.2.1 (G.lt g hbb) h.2.2 (hb.G hbb g)
  have HZ : Hid (Rec w bz [.bool false, .slice none 0 0, .bool false, .slice none 0 0]) := hz
  have HA2 : Hid (sa.natAbs < 2 ^ (32 * K)) := hA2
  have HB2 : Hid (sb.natAbs < 2 ^ (32 * K)) := hB2
  have HB0 : Hid (sb ≠ 0) := hB0
  obtain ⟨nb, vb, b', ⟨-, c2, -, -⟩, hvb, hsb, -⟩ := hb
  obtain ⟨m, hm, hcm, hmv⟩ := hvb
  obtain ⟨pb, cb, rfl, -, -⟩ := sl_at hm
  have hm0 : m.length ≠ 0 := by
    intro h0
    rw [List.eq_nil_of_length_eq_zero h0] at hmv
    have : b' = 0 := hmv.symm
    rw [this] at hsb
    unfold sg at hsb
    cases nb <;> simp at hsb <;> omega
  have hm00 : ((m.length : Int) == 0) = false := by simp; intro h; exact hm0 (by rw [h]; rfl)
  generalize m.length = j at *
  clear hz ha hm hcm hmv hsb hm0 hA2 hB2 hB0
  go_enter Tryz.func62, Tryz.ntmps62
  go_wp2_with fail
  have hn0 := NI.new (G.refl w) 46
  have hGa := (G.refl w).alloc (.cells #[.bool false, .slice none 0 0] 46)
  refine Calls.mono (P := Tryz.prog) (HSA.out _ _ hGa hn0) ?_
  intro e w3 hs
  obtain ⟨rfl, hG3, hN3, -, -⟩ := SetTo.step hGa hn0 hs
  clear hs hn0 hGa c2
  have hlt : bz < w.heap.size := hbz
  generalize hpn : w.heap.size = pn at *
  go_wp2_with fail
  have hn0 := NI.new hG3 46
  have hN4 := hN3.G ((G.refl w3).alloc (.cells #[.bool false, .slice none 0 0] 46))
  have hGa := G.trans hG3 ((G.refl w3).alloc (.cells #[.bool false, .slice none 0 0] 46))
  have hne : w3.heap.size ≠ pn := by have := hN3.2.1; omega
  refine Calls.mono (P := Tryz.prog) (HSB.out _ _ hGa hn0) ?_
  intro e w4 hs
  obtain ⟨rfl, hG4, hD4, -, hkp⟩ := SetTo.step hGa hn0 hs
  have hP4 := hkp pn sa hne.symm hN4
  clear hs hn0 hGa hkp hN4 hN3 hG3 HSA HSB
  generalize w3.heap.size = pd at *
  have hpd := hD4.1
  have hpn2 := hP4.1
  obtain ⟨-, hpnl, n1, v1, a1, ⟨c1, c2, -, -⟩, hv1, h1, h1n⟩ := hP4
  obtain ⟨-, hpdl, n2, v2, a2, ⟨c3, c4, -, -⟩, hv2, h2, h2n⟩ := hD4
  have hZ4 := Rec.G HZ.out hG4
  have hf := Rec.f4 hZ4
  have z1 := hf.1
  have z2 := hf.2.1
  have z3 := hf.2.2.1
  have z4 := hf.2.2.2.1
  have f1 := hf.2.2.2.2.1
  have f2 := hf.2.2.2.2.2.1
  have f3 := hf.2.2.2.2.2.2.1
  have f4 := hf.2.2.2.2.2.2.2
  obtain ⟨q1, r1, t1, rfl⟩ := num_sl hv1
  obtain ⟨q2, r2, t2, rfl⟩ := num_sl hv2
  simp only [Nat.zero_add] at c2 c4
  have hnp : ¬ bz = pn := by omega
  have hnd : ¬ bz = pd := by omega
  have hnp' : ¬ pn = bz := by omega
  have hnd' : ¬ pd = bz := by omega
  have hci : ∀ c ∈ [Value.bool false, .slice none 0 0, .bool false, .slice none 0 0], ∀ k i, c ≠ .int k i := by
    intro c hc k i
    simp at hc
    rcases hc with rfl | rfl | rfl | rfl <;> (intro e; cases e)
  have HV1 : Hid _ := num_cells (u1 := .bool n1) (u2 := .slice q1 r1 t1) (u3 := .bool n2) (u4 := .slice q2 r2 t2) hv1 hZ4 hci
  have HV2 : Hid _ := num_cells (u1 := .bool n1) (u2 := .slice q1 r1 t1) (u3 := .bool n2) (u4 := .slice q2 r2 t2) hv2 hZ4 hci
  have HRC : Hid (Rec ((((w4.setCell ⟨bz, 0, none⟩ (.bool n1)).setCell ⟨bz, 1, none⟩ (.slice q1 r1 t1)).setCell ⟨bz, 2, none⟩ (.bool n2)).setCell ⟨bz, 3, none⟩ (.slice q2 r2 t2)) bz [.bool n1, .slice q1 r1 t1, .bool n2, .slice q2 r2 t2]) := (((hZ4.set 0 _).set 1 _).set 2 _).set 3 _
  have HGX : Hid (GX bz w ((((w4.setCell ⟨bz, 0, none⟩ (.bool n1)).setCell ⟨bz, 1, none⟩ (.slice q1 r1 t1)).setCell ⟨bz, 2, none⟩ (.bool n2)).setCell ⟨bz, 3, none⟩ (.slice q2 r2 t2))) := GX.set (GX.set (GX.set (GX.set (GX.of hG4) _) _) _) _
  have hf2 := Rec.f4 HRC.out
  have HIA : Hid (IntIs ((((w4.setCell ⟨bz, 0, none⟩ (.bool n1)).setCell ⟨bz, 1, none⟩ (.slice q1 r1 t1)).setCell ⟨bz, 2, none⟩ (.bool n2)).setCell ⟨bz, 3, none⟩ (.slice q2 r2 t2)) bz 0 sa) := ⟨n1, _, a1, ⟨hf2.1, hf2.2.1, hf2.2.2.2.2.1, hf2.2.2.2.2.2.1⟩, HV1.out, h1, h1n⟩
  have HIB : Hid (IntIs ((((w4.setCell ⟨bz, 0, none⟩ (.bool n1)).setCell ⟨bz, 1, none⟩ (.slice q1 r1 t1)).setCell ⟨bz, 2, none⟩ (.bool n2)).setCell ⟨bz, 3, none⟩ (.slice q2 r2 t2)) bz 2 sb) := ⟨n2, _, a2, ⟨hf2.2.2.1, hf2.2.2.2.1, hf2.2.2.2.2.2.2.1, hf2.2.2.2.2.2.2.2⟩, HV2.out, h2, h2n⟩
  have hq := frac_rat (sa := sa) HB0.out
  have hlow := frac_low (by have := HB0.out; omega) hq
  have hnab : (if sb < 0 then -sa else sa).natAbs = sa.natAbs := by split <;> omega
  rw [hnab] at hlow
  obtain ⟨P, hP⟩ : ∃ P, P = ((sa : Rat) / (sb : Rat)).num := ⟨_, rfl⟩
  obtain ⟨D, hD⟩ : ∃ D, D = ((sa : Rat) / (sb : Rat)).den := ⟨_, rfl⟩
  rw [← hP, ← hD] at hlow
  have HN : Hid (∀ w5, bz < w5.heap.size → IntIs w5 bz 0 sa → IntIs w5 bz 2 sb → Calls Tryz.prog 144 #[.pointer (some ⟨bz, 0, none⟩)] w5 (NormTo w5 bz P D)) := by
    intro w5 k1 k2 k3
    by_cases hneg : sb < 0
    · have h := norm_neg_c w5 bz sa sb.natAbs K hK HA2.out HB2.out (by omega) k1 k2 (by rw [show -((sb.natAbs : Nat) : Int) = sb from by omega]; exact k3)
      rw [if_pos hneg] at hlow
      rw [hlow.1, hlow.2]; exact h
    · obtain ⟨n, va, A, ia, na0, ea, hnA⟩ := k2
      obtain ⟨m2, vb, B, ib, nb0, eb, hnB⟩ := k3
      have hm2 : m2 = false := by
        cases m2
        · rfl
        · have h1 := hnB rfl
          unfold sg at eb; simp at eb; omega
      subst hm2
      have hBB : B = sb.natAbs := by unfold sg at eb; simp at eb; omega
      have hAs : A = sa.natAbs := sg_abs ea
      have h := norm_c w5 bz n va vb A B K hK (by rw [hAs]; exact HA2.out) (by rw [hBB]; exact HB2.out) (by have := HB0.out; omega) hnA k1 ⟨ia, na0, ib, nb0⟩
      rw [if_neg hneg] at hlow
      rw [sg_tdiv, ea, hAs, hBB, ← hlow.1, ← hlow.2] at h
      exact h
  have hsz : bz < ((((w4.setCell ⟨bz, 0, none⟩ (.bool n1)).setCell ⟨bz, 1, none⟩ (.slice q1 r1 t1)).setCell ⟨bz, 2, none⟩ (.bool n2)).setCell ⟨bz, 3, none⟩ (.slice q2 r2 t2)).heap.size := by
    have : bz < w4.heap.size := by omega
    simpa [World.setCell] using this
  have HN5 : Hid _ := HN.out _ hsz HIA.out HIB.out
  have HPD : Hid (P = ((sa : Rat) / (sb : Rat)).num ∧ D = ((sa : Rat) / (sb : Rat)).den) := ⟨hP, hD⟩
  clear h1n h1 h2 h2n hv1 hv2 HZ hZ4 hf hf2 hci HV1 HV2 HRC HIA HIB hq hlow hnab hP hD HN
  go_wp2_with fail
  refine Calls.mono (P := Tryz.prog) HN5.out ?_
  intro e w6 hs
  obtain ⟨rfl, k1, k2⟩ := hs
  have HK2 : Hid (RatIs w6 bz P (D : Int)) := k2
  have HK1 : Hid (GX bz w w6) := GX.trans HGX.out k1
  clear k1 k2
  go_wp2_with fail
  go_ret
  exact ⟨rfl, HK1.out, by rw [← HPD.out.1, ← HPD.out.2]; exact HK2.out⟩
end Go.Proofs.YtahfkkkfpcdjaabGreatDoor
namespace Go.Proofs.YtahfkkkfpcdjaabGreatDoor.EN
open Go.ChangeShapes Go.WideShapes Go.ChangeAt Go.RowKit

/-- Rows of the reference stand where a record of fractions is written. -/
theorem bnum_set3 {w : World} {v : Value} {n b : Nat} {x y z u1 u2 u3 : Value} (h : BN.Num w v n) (r : Rec w b [x, y, z]) (hx : ∀ c ∈ [x, y, z], ∀ k i, c ≠ .int k i) :
    BN.Num (((w.setCell ⟨b, 0, none⟩ u1).setCell ⟨b, 1, none⟩ u2).setCell ⟨b, 2, none⟩ u3) v n := by
  obtain ⟨m, ⟨ho, hm⟩, hcm, hv⟩ := h
  refine ⟨m, ⟨ho, ?_⟩, hcm, hv⟩
  rcases hm with h0 | ⟨b2, o, c, rfl, hcc, hb, hr⟩
  · exact Or.inl h0
  · refine Or.inr ⟨b2, o, c, rfl, hcc, by simpa [World.setCell] using hb, fun i hi => ?_⟩
    have hbb : b2 ≠ b := by
      intro e
      subst e
      have h0 := hr i hi
      rw [r.cell] at h0
      exact hx _ (List.mem_of_getElem? h0) _ _ rfl
    rw [World.cell?_setCell_other _ _ _ _ (by intro e; injection e with e1; exact hbb e1.symm), World.cell?_setCell_other _ _ _ _ (by intro e; injection e with e1; exact hbb e1.symm), World.cell?_setCell_other _ _ _ _ (by intro e; injection e with e1; exact hbb e1.symm)]
    exact hr i hi
theorem int_set3 {w : World} {p o : Nat} {s : Int} {b : Nat} {x y z u1 u2 u3 : Value} (h : IntIs w p o s) (hne : p ≠ b) (r : Rec w b [x, y, z]) (hx : ∀ c ∈ [x, y, z], ∀ k i, c ≠ .int k i) :
    IntIs (((w.setCell ⟨b, 0, none⟩ u1).setCell ⟨b, 1, none⟩ u2).setCell ⟨b, 2, none⟩ u3) p o s := by
  obtain ⟨n, v, a, ⟨c1, c2, f1, f2⟩, hv, h1, h2⟩ := h
  have hc : ∀ (w1 : World) (i k : Nat) (u : Value), (w1.setCell ⟨b, i, none⟩ u).cell? ⟨p, k, none⟩ = w1.cell? ⟨p, k, none⟩ := fun w1 i k u => World.cell?_setCell_other _ _ _ _ (by intro e; injection e with e1; exact hne e1.symm)
  have hf : ∀ (w1 : World) (i k : Nat) (u : Value), (w1.setCell ⟨b, i, none⟩ u).frozen? ⟨p, k, none⟩ = w1.frozen? ⟨p, k, none⟩ := fun w1 i k u => World.frozen?_setCell _ _ _ _
  exact ⟨n, v, a, ⟨by rw [hc, hc, hc]; exact c1, by rw [hc, hc, hc]; exact c2, by rw [hf, hf, hf]; exact f1, by rw [hf, hf, hf]; exact f2⟩, bnum_set3 hv r hx, h1, h2⟩

/-- A new Int of the reference. -/
def NewI (w0 w : World) (v : Value) (s : Int) : Prop := ∃ p, v = .pointer (some ⟨p, 0, none⟩) ∧ w0.heap.size ≤ p ∧ p < w.heap.size ∧ IntIs w p 0 s
theorem NewI.G {w0 w w' : World} {v : Value} {s : Int} (h : NewI w0 w v s) (g : G w w') : NewI w0 w' v s := by
  obtain ⟨p, e, h1, h2, h3⟩ := h
  exact ⟨p, e, h1, Nat.lt_of_lt_of_le h2 g.size, h3.G h2 g⟩
/-- A fraction and the same of the reference. -/
def RetOver (w : World) (q : Rat) (e : Ending) (w' : World) : Prop := ∃ v p, e = .returned (.tuple #[v, .pointer (some ⟨p, 0, none⟩)]) ∧ G w w' ∧ QIs w' v q ∧ w.heap.size ≤ p ∧ p < w'.heap.size ∧ RatIs w' p q.num q.den


theorem lawover_c (w : World) (a b bb : Int) (hbb : bb = if b = 0 then 1 else b) (hT : Tab w) (h1 : -9223372036854775808 ≤ a) (h2 : a < 9223372036854775808) (h3 : -9223372036854775808 ≤ b) (h4 : b < 9223372036854775808) :
    Calls Tryz.prog 29 #[.int .i64 a, .int .i64 b] w (RetOver w ((a : Rat) / (bb : Rat))) := by
  have hb0 : bb ≠ 0 := by rw [hbb]; split <;> omega
  have hbl : -9223372036854775808 ≤ bb ∧ bb < 9223372036854775808 := by rw [hbb]; split <;> omega
  obtain ⟨q, hq⟩ : ∃ q : Rat, q = (a : Rat) / (bb : Rat) := ⟨_, rfl⟩
  have HO : Hid (∀ w1, G w w1 → Calls Tryz.prog 49 #[.int .i64 a, .int .i64 bb] w1 (RetQE w1 q 0)) := fun w1 g => by
    have h := over_int_c w1 a bb (hT.G g) h1 h2 hbl.1 hbl.2
    rw [if_neg hb0, if_neg hb0, ← hq] at h
    exact h
  have HN : ∀ x : Int, -9223372036854775808 ≤ x → x < 9223372036854775808 → ∀ w0 w1 : World, G w0 w1 → Calls Tryz.prog 60 #[.int .i64 x] w1 fun e w' => ∃ v, e = .returned v ∧ G w1 w' ∧ NewI w0 w' v x := fun x k1 k2 w0 w1 g => by
    refine (newI_c w1 x ⟨k1, by omega⟩).mono ?_
    rintro e w' ⟨p, rfl, g1, hp, hs, hi⟩
    exact ⟨_, rfl, g1, p, rfl, Nat.le_trans g.size hp, hs, hi⟩
  have HS : Hid (∀ w1 p pa pb, pa < w1.heap.size → pb < w1.heap.size → Rec w1 p [.bool false, .slice none 0 0, .bool false, .slice none 0 0] → IntIs w1 pa 0 a → IntIs w1 pb 0 bb →
      Calls Tryz.prog 62 #[.pointer (some ⟨p, 0, none⟩), .pointer (some ⟨pa, 0, none⟩), .pointer (some ⟨pb, 0, none⟩)] w1 (NormTo w1 p q.num q.den)) := fun w1 p pa pb k1 k2 k3 k4 k5 => by
    have h := setFrac_any w1 p pa 0 pb 0 a bb 3 (by omega) (by have : (2 : Nat) ^ (32 * 3) = 79228162514264337593543950336 := rfl; omega) (by have : (2 : Nat) ^ (32 * 3) = 79228162514264337593543950336 := rfl; omega) hb0 k1 k2 k3 k4 k5
    rw [← hq] at h
    exact h
  have HN1' : Hid (∀ w0 w1 : World, G w0 w1 → _) := HN a h1 h2
  have HN2' : Hid (∀ w0 w1 : World, G w0 w1 → _) := HN bb hbl.1 hbl.2
  rw [← hq]
  clear HN hbl hb0 hq hT
  by_cases h0 : b = 0
  · subst h0
    rw [if_pos rfl] at hbb
    go_enter Tryz.func29, Tryz.ntmps29
    go_wp2_with fail
    rw [← hbb]
    clear hbb
    have g0 : G w (w.alloc (.cells #[.bool false, .slice none 0 0, .slice none 0 0] 28)) := ((G.refl w).alloc _)
    have R0 : Hid (Rec (w.alloc (.cells #[.bool false, .slice none 0 0, .slice none 0 0] 28)) (w.heap.size) [.bool false, .slice none 0 0, .slice none 0 0]) := by
      have h := Rec.new3 w (.bool false) (.slice none 0 0) (.slice none 0 0) 28
      exact h
    have hz0 : (w.alloc (.cells #[.bool false, .slice none 0 0, .slice none 0 0] 28)).heap.size = w.heap.size + 1 := by simp
    generalize (w.alloc (.cells #[.bool false, .slice none 0 0, .slice none 0 0] 28)) = w0 at *
    have RA : Hid (Rec _ _ _) := R0
    clear R0
    refine Calls.mono (P := Tryz.prog) (HO.out w0 g0) ?_
    intro e1 w1 hs
    obtain ⟨v, rfl, g1, hv⟩ := hs
    obtain ⟨a8, k8, c8, a9, k9, c9, rfl, hm8, hm9⟩ := hv
    have HM8 : Hid (Num w1 (.slice a8 k8 c8) _) := hm8
    have HM9 : Hid (Num w1 (.slice a9 k9 c9) _) := hm9
    obtain ⟨t9, ht9⟩ : ∃ t, t = decide (q.num < 0) := ⟨_, rfl⟩
    rw [← ht9]
    have HT9 : Hid (t9 = decide (q.num < 0)) := ht9
    clear hm8 hm9 ht9
    go_wp2_with fail
    have g2 : G w1 (w1.alloc (.cells #[.bool t9, .slice a8 k8 c8, .slice a9 k9 c9] 28)) := ((G.refl w1).alloc _)
    have R0 : Hid (Rec (w1.alloc (.cells #[.bool t9, .slice a8 k8 c8, .slice a9 k9 c9] 28)) (w1.heap.size) [.bool t9, .slice a8 k8 c8, .slice a9 k9 c9]) := by
      have h := Rec.new3 w1 (.bool t9) (.slice a8 k8 c8) (.slice a9 k9 c9) 28
      exact h
    have hz2 : (w1.alloc (.cells #[.bool t9, .slice a8 k8 c8, .slice a9 k9 c9] 28)).heap.size = w1.heap.size + 1 := by simp
    generalize (w1.alloc (.cells #[.bool t9, .slice a8 k8 c8, .slice a9 k9 c9] 28)) = w2 at *
    have hSR0 := Rec.f3 (Rec.G R0.out (G.refl _))
    have hSR0_0 := hSR0.1
    have hSR0_1 := hSR0.2.1
    have hSR0_2 := hSR0.2.2.1
    have hSR0_3 := hSR0.2.2.2.1
    have hSR0_4 := hSR0.2.2.2.2.1
    have hSR0_5 := hSR0.2.2.2.2.2
    clear hSR0
    refine region_J 7 (G w2) (by kernel_rfl) (by first | exact (G.refl _).drew | exact G.drew (by assumption)) ?_
    intro hSh
    refine wpAnyJ_take (i := 0) (v := ?_) rfl (by kernel_rfl) (by kernel_rfl) (by kernel_rfl) (by kernel_rfl) (by kernel_rfl) (by kernel_rfl) (by kernel_rfl) (fun _ _ _ h => h) (Or.inl ⟨by rfl, ?_⟩) (by assumption) ?_
    rotate_left
    · intro wq hwq
      have hq1 := G.cell (p := ⟨w1.heap.size, 0, none⟩) (v := .bool t9) hwq (by first | assumption | (simp; done) | (simp; omega) | omega) (by assumption)
      have hq2 := G.cell (p := ⟨w1.heap.size, 1, none⟩) (v := .slice a8 k8 c8) hwq (by first | assumption | (simp; done) | (simp; omega) | omega) (by assumption)
      have hq3 := G.cell (p := ⟨w1.heap.size, 2, none⟩) (v := .slice a9 k9 c9) hwq (by first | assumption | (simp; done) | (simp; omega) | omega) (by assumption)
      first | (go_simp; done) | (go_simp; with_reducible rfl)
    try simp only [Act.put, List.setIfInBounds_toArray, List.set_cons_zero, List.set_cons_succ]
    refine each_fromJ (done := #[true, false, false, false, false, false, false, false, false]) 6 3 5 #[true, true, true, true, true, true, false, false, false] [.is (undef), .any (fun v w' => NewRec w2 w' v ([.bool false, .slice none 0 0, .bool false, .slice none 0 0])), .is (.int .i64 a), .any (fun v w' => NewI w2 w' v a), .is (.int .i64 bb), .any (fun v w' => NewI w2 w' v bb)] [none, some 17, some 18, some 19, some 20, some 21] rfl (by kernel_rfl) rfl (by repeat (first | exact trivial | refine ⟨fun _ _ _ g h => by first | exact h.G g | exact fun w3 g3 => h w3 (G.trans g g3), ?_⟩)) (by kernel_rfl) (by kernel_rfl) (by kernel_rfl) (by kernel_rfl) (by kernel_rfl) (by kernel_rfl) (by kernel_rfl) (by kernel_rfl) (by kernel_rfl) (by assumption) ?_
    refine Letters.is ?_
    refine Letters.any fun v1 => ?_
    refine Letters.is ?_
    refine Letters.any fun v3 => ?_
    refine Letters.is ?_
    refine Letters.any fun v5 => ?_
    refine Letters.nil ?_
    intro A hA
    simp only [fillD, Act.put, List.setIfInBounds_toArray, List.set_cons_zero, List.set_cons_succ] at hA
    subst hA
    refine ⟨?_, ?_⟩
    · skip
      refine EachesD.skip rfl (by kernel_rfl) ?_
      refine EachesD.cons rfl ?_ ?_
      · intro W hW hD K hK
        clear hD
        go_simp
        exact hK.out _ _ ⟨_, by first | (simp only [Act.put, List.setIfInBounds_toArray, List.set_cons_zero, List.set_cons_succ]; done) | simp only [Act.put, List.setIfInBounds_toArray, List.set_cons_zero, List.set_cons_succ, *], (G.refl _).alloc _, _, rfl, hW.size, Rec.new4 _ _ _ _ _ _⟩
      refine EachesD.cons rfl ?_ ?_
      · intro W hW hD K hK
        clear hD
        go_simp
        exact hK.out _ _ ⟨_, by first | (simp only [Act.put, List.setIfInBounds_toArray, List.set_cons_zero, List.set_cons_succ]; done) | simp only [Act.put, List.setIfInBounds_toArray, List.set_cons_zero, List.set_cons_succ, *], G.refl _, rfl⟩
      refine EachesD.cons rfl ?_ ?_
      · intro W hW hD K hK
        clear hD
        go_simp
        go_wp2_with (go_at_call 60; refine Calls.mono (P := Tryz.prog) (HN1'.out _ W hW) ?_; intro e w9 hs; obtain ⟨u9, rfl, g9, hn9⟩ := hs)
        exact hK.out _ _ ⟨_, by first | (simp only [Act.put, List.setIfInBounds_toArray, List.set_cons_zero, List.set_cons_succ]; done) | simp only [Act.put, List.setIfInBounds_toArray, List.set_cons_zero, List.set_cons_succ, *], g9, hn9⟩
      refine EachesD.cons rfl ?_ ?_
      · intro W hW hD K hK
        clear hD
        go_simp
        exact hK.out _ _ ⟨_, by first | (simp only [Act.put, List.setIfInBounds_toArray, List.set_cons_zero, List.set_cons_succ]; done) | simp only [Act.put, List.setIfInBounds_toArray, List.set_cons_zero, List.set_cons_succ, *], G.refl _, rfl⟩
      refine EachesD.cons rfl ?_ ?_
      · intro W hW hD K hK
        clear hD
        go_simp
        go_wp2_with (go_at_call 60; refine Calls.mono (P := Tryz.prog) (HN2'.out _ W hW) ?_; intro e w9 hs; obtain ⟨u9, rfl, g9, hn9⟩ := hs)
        exact hK.out _ _ ⟨_, by first | (simp only [Act.put, List.setIfInBounds_toArray, List.set_cons_zero, List.set_cons_succ]; done) | simp only [Act.put, List.setIfInBounds_toArray, List.set_cons_zero, List.set_cons_succ, *], g9, hn9⟩
      exact EachesD.nil
    intro w3 g3 hH
    have h1 := Helds.get (v := v1) 1 hH rfl rfl
    have h3 := Helds.get (v := v3) 3 hH rfl rfl
    have h5 := Helds.get (v := v5) 5 hH rfl rfl
    clear hH
    obtain ⟨p, rfl, hp1, hp2⟩ := h1
    obtain ⟨pa, rfl, ha1, ha2, ha3⟩ := h3
    obtain ⟨pb, rfl, hb1, hb2, hb3⟩ := h5
    clear HN1' HN2' HO
    have HP : Hid (Rec _ _ _) := hp2
    have HPA : Hid (IntIs _ _ _ _) := ha3
    have HPB : Hid (IntIs _ _ _ _) := hb3
    have HL : Hid (pa < w3.heap.size ∧ pb < w3.heap.size) := ⟨ha2, hb2⟩
    clear hp2 ha3 hb3 ha2 hb2 ha1 hb1
    refine wpAnyJ_next (i := 6) (by kernel_rfl) rfl ?_
    intro K hK
    go_simp
    go_wp2_with (go_at_call 62; refine Calls.mono (P := Tryz.prog) (HS.out w3 p pa pb HL.out.1 HL.out.2 HP.out HPA.out HPB.out) ?_; intro e w4 hs; obtain ⟨rfl, hgx, hr4⟩ := hs)
    have g24 : G w2 w4 := GX.fresh g3 hgx hp1
    have hp4 : p < w4.heap.size := Nat.lt_of_lt_of_le HP.out.lt hgx.size
    have HR4 : Hid (RatIs _ _ _ _) := hr4
    clear hgx hr4 HP HPA HPB HL g3 HS
    refine hK.out _ _ (Or.inr g24) ?_
    clear hK K
    have g04 : G w0 w4 := G.trans g1 (G.trans g2 g24)
    have hSRA := Rec.f3 (Rec.G RA.out (g04))
    have hSRA_0 := hSRA.1
    have hSRA_1 := hSRA.2.1
    have hSRA_2 := hSRA.2.2.1
    have hSRA_3 := hSRA.2.2.2.1
    have hSRA_4 := hSRA.2.2.2.2.1
    have hSRA_5 := hSRA.2.2.2.2.2
    clear hSRA
    refine wpAnyJ_next (i := 7) (by kernel_rfl) rfl ?_
    intro K hK
    go_simp
    refine hK.out _ _ (Or.inl (by decide)) ?_
    clear hK K hSRA_0 hSRA_1 hSRA_2 hSRA_3 hSRA_4 hSRA_5
    refine wpAnyJ_next (i := 8) (by kernel_rfl) rfl ?_
    intro K hK
    go_simp
    refine hK.out _ _ (Or.inl (by decide)) ?_
    clear hK K
    refine wpAnyJ_done (by kernel_rfl) ?_ _
    have hpw : w.heap.size < p := by
      have k1 := g1.size
      have k2 := g2.size
      omega
    have hci : ∀ c ∈ [Value.bool false, .slice none 0 0, .slice none 0 0], ∀ k i, c ≠ .int k i := by
      intro c hc k i
      simp at hc
      rcases hc with rfl | rfl <;> (intro e; cases e)
    have HN8' : Num _ _ _ := num_set3 (u1 := .bool t9) (u2 := .slice a8 k8 c8) (u3 := .slice a9 k9 c9) (HM8.out.G (G.trans g2 g24)) (Rec.G RA.out (g04)) trivial trivial trivial
    have HN9' : Num _ _ _ := num_set3 (u1 := .bool t9) (u2 := .slice a8 k8 c8) (u3 := .slice a9 k9 c9) (HM9.out.G (G.trans g2 g24)) (Rec.G RA.out (g04)) trivial trivial trivial
    have HRA' : IntIs _ p 0 _ := int_set3 (u1 := .bool t9) (u2 := .slice a8 k8 c8) (u3 := .slice a9 k9 c9) HR4.out.1 (Nat.ne_of_gt hpw) (Rec.G RA.out (g04)) hci
    have HRB' : IntIs _ p 2 _ := int_set3 (u1 := .bool t9) (u2 := .slice a8 k8 c8) (u3 := .slice a9 k9 c9) HR4.out.2 (Nat.ne_of_gt hpw) (Rec.G RA.out (g04)) hci
    have hp9 : p < (((w4.setCell ⟨w.heap.size, 0, none⟩ (.bool t9)).setCell ⟨w.heap.size, 1, none⟩ (.slice a8 k8 c8)).setCell ⟨w.heap.size, 2, none⟩ (.slice a9 k9 c9)).heap.size := by simpa [World.setCell] using hp4
    clear hci HR4 HM8 HM9 hp4
    go_wp2_with fail
    have hT : Hid (Rec (World.setCell (World.setCell (World.setCell w4 ⟨w.heap.size, 0, none⟩ (.bool t9)) ⟨w.heap.size, 1, none⟩ (.slice a8 k8 c8)) ⟨w.heap.size, 2, none⟩ (.slice a9 k9 c9)) (w.heap.size) [.bool t9, .slice a8 k8 c8, .slice a9 k9 c9]) := Rec.set3 (Rec.G RA.out (g04))
    have g9 := Rec.g3 (b := w.heap.size) (u := .bool t9) (v := .slice a8 k8 c8) (x := .slice a9 k9 c9) (G.trans g0 g04) (by omega)
    generalize (World.setCell (World.setCell (World.setCell w4 ⟨w.heap.size, 0, none⟩ (.bool t9)) ⟨w.heap.size, 1, none⟩ (.slice a8 k8 c8)) ⟨w.heap.size, 2, none⟩ (.slice a9 k9 c9)) = w9 at *
    have hF := Rec.f3 (Rec.G hT.out ((G.refl _)))
    have hF_0 := hF.1
    have hF_1 := hF.2.1
    have hF_2 := hF.2.2.1
    have hF_3 := hF.2.2.2.1
    have hF_4 := hF.2.2.2.2.1
    have hF_5 := hF.2.2.2.2.2
    clear hF
    refine bodyPost_ret (v := .tuple #[.agg #[.bool t9, .slice a8 k8 c8, .slice a9 k9 c9], .pointer (some ⟨p, 0, none⟩)]) (by simp [results, Tryz.results29, go_sem, *]) rfl ?_
    exact ⟨_, p, rfl, g9, ⟨a8, k8, c8, a9, k9, c9, by rw [← HT9.out], HN8', HN9'⟩, Nat.le_of_lt hpw, hp9, HRA', HRB'⟩
  · rw [if_neg h0] at hbb
    subst hbb
    have hb : ((bb : Int) == 0) = false := by simpa using h0
    clear h0
    go_enter Tryz.func29, Tryz.ntmps29
    go_wp2_with fail
    have g0 : G w (w.alloc (.cells #[.bool false, .slice none 0 0, .slice none 0 0] 28)) := ((G.refl w).alloc _)
    have R0 : Hid (Rec (w.alloc (.cells #[.bool false, .slice none 0 0, .slice none 0 0] 28)) (w.heap.size) [.bool false, .slice none 0 0, .slice none 0 0]) := by
      have h := Rec.new3 w (.bool false) (.slice none 0 0) (.slice none 0 0) 28
      exact h
    have hz0 : (w.alloc (.cells #[.bool false, .slice none 0 0, .slice none 0 0] 28)).heap.size = w.heap.size + 1 := by simp
    generalize (w.alloc (.cells #[.bool false, .slice none 0 0, .slice none 0 0] 28)) = w0 at *
    have RA : Hid (Rec _ _ _) := R0
    clear R0
    refine Calls.mono (P := Tryz.prog) (HO.out w0 g0) ?_
    intro e1 w1 hs
    obtain ⟨v, rfl, g1, hv⟩ := hs
    obtain ⟨a8, k8, c8, a9, k9, c9, rfl, hm8, hm9⟩ := hv
    have HM8 : Hid (Num w1 (.slice a8 k8 c8) _) := hm8
    have HM9 : Hid (Num w1 (.slice a9 k9 c9) _) := hm9
    obtain ⟨t9, ht9⟩ : ∃ t, t = decide (q.num < 0) := ⟨_, rfl⟩
    rw [← ht9]
    have HT9 : Hid (t9 = decide (q.num < 0)) := ht9
    clear hm8 hm9 ht9
    go_wp2_with fail
    have g2 : G w1 (w1.alloc (.cells #[.bool t9, .slice a8 k8 c8, .slice a9 k9 c9] 28)) := ((G.refl w1).alloc _)
    have R0 : Hid (Rec (w1.alloc (.cells #[.bool t9, .slice a8 k8 c8, .slice a9 k9 c9] 28)) (w1.heap.size) [.bool t9, .slice a8 k8 c8, .slice a9 k9 c9]) := by
      have h := Rec.new3 w1 (.bool t9) (.slice a8 k8 c8) (.slice a9 k9 c9) 28
      exact h
    have hz2 : (w1.alloc (.cells #[.bool t9, .slice a8 k8 c8, .slice a9 k9 c9] 28)).heap.size = w1.heap.size + 1 := by simp
    generalize (w1.alloc (.cells #[.bool t9, .slice a8 k8 c8, .slice a9 k9 c9] 28)) = w2 at *
    have hSR0 := Rec.f3 (Rec.G R0.out (G.refl _))
    have hSR0_0 := hSR0.1
    have hSR0_1 := hSR0.2.1
    have hSR0_2 := hSR0.2.2.1
    have hSR0_3 := hSR0.2.2.2.1
    have hSR0_4 := hSR0.2.2.2.2.1
    have hSR0_5 := hSR0.2.2.2.2.2
    clear hSR0
    refine region_J 7 (G w2) (by kernel_rfl) (by first | exact (G.refl _).drew | exact G.drew (by assumption)) ?_
    intro hSh
    refine wpAnyJ_take (i := 0) (v := ?_) rfl (by kernel_rfl) (by kernel_rfl) (by kernel_rfl) (by kernel_rfl) (by kernel_rfl) (by kernel_rfl) (by kernel_rfl) (fun _ _ _ h => h) (Or.inl ⟨by rfl, ?_⟩) (by assumption) ?_
    rotate_left
    · intro wq hwq
      have hq4 := G.cell (p := ⟨w1.heap.size, 0, none⟩) (v := .bool t9) hwq (by first | assumption | (simp; done) | (simp; omega) | omega) (by assumption)
      have hq5 := G.cell (p := ⟨w1.heap.size, 1, none⟩) (v := .slice a8 k8 c8) hwq (by first | assumption | (simp; done) | (simp; omega) | omega) (by assumption)
      have hq6 := G.cell (p := ⟨w1.heap.size, 2, none⟩) (v := .slice a9 k9 c9) hwq (by first | assumption | (simp; done) | (simp; omega) | omega) (by assumption)
      first | (go_simp; done) | (go_simp; with_reducible rfl)
    try simp only [Act.put, List.setIfInBounds_toArray, List.set_cons_zero, List.set_cons_succ]
    refine each_fromJ (done := #[true, false, false, false, false, false, false, false, false]) 6 3 5 #[true, true, true, true, true, true, false, false, false] [.is (undef), .any (fun v w' => NewRec w2 w' v ([.bool false, .slice none 0 0, .bool false, .slice none 0 0])), .is (.int .i64 a), .any (fun v w' => NewI w2 w' v a), .is (.int .i64 bb), .any (fun v w' => NewI w2 w' v bb)] [none, some 17, some 18, some 19, some 20, some 21] rfl (by kernel_rfl) rfl (by repeat (first | exact trivial | refine ⟨fun _ _ _ g h => by first | exact h.G g | exact fun w3 g3 => h w3 (G.trans g g3), ?_⟩)) (by kernel_rfl) (by kernel_rfl) (by kernel_rfl) (by kernel_rfl) (by kernel_rfl) (by kernel_rfl) (by kernel_rfl) (by kernel_rfl) (by kernel_rfl) (by assumption) ?_
    refine Letters.is ?_
    refine Letters.any fun v1 => ?_
    refine Letters.is ?_
    refine Letters.any fun v3 => ?_
    refine Letters.is ?_
    refine Letters.any fun v5 => ?_
    refine Letters.nil ?_
    intro A hA
    simp only [fillD, Act.put, List.setIfInBounds_toArray, List.set_cons_zero, List.set_cons_succ] at hA
    subst hA
    refine ⟨?_, ?_⟩
    · skip
      refine EachesD.skip rfl (by kernel_rfl) ?_
      refine EachesD.cons rfl ?_ ?_
      · intro W hW hD K hK
        clear hD
        go_simp
        exact hK.out _ _ ⟨_, by first | (simp only [Act.put, List.setIfInBounds_toArray, List.set_cons_zero, List.set_cons_succ]; done) | simp only [Act.put, List.setIfInBounds_toArray, List.set_cons_zero, List.set_cons_succ, *], (G.refl _).alloc _, _, rfl, hW.size, Rec.new4 _ _ _ _ _ _⟩
      refine EachesD.cons rfl ?_ ?_
      · intro W hW hD K hK
        clear hD
        go_simp
        exact hK.out _ _ ⟨_, by first | (simp only [Act.put, List.setIfInBounds_toArray, List.set_cons_zero, List.set_cons_succ]; done) | simp only [Act.put, List.setIfInBounds_toArray, List.set_cons_zero, List.set_cons_succ, *], G.refl _, rfl⟩
      refine EachesD.cons rfl ?_ ?_
      · intro W hW hD K hK
        clear hD
        go_simp
        go_wp2_with (go_at_call 60; refine Calls.mono (P := Tryz.prog) (HN1'.out _ W hW) ?_; intro e w9 hs; obtain ⟨u9, rfl, g9, hn9⟩ := hs)
        exact hK.out _ _ ⟨_, by first | (simp only [Act.put, List.setIfInBounds_toArray, List.set_cons_zero, List.set_cons_succ]; done) | simp only [Act.put, List.setIfInBounds_toArray, List.set_cons_zero, List.set_cons_succ, *], g9, hn9⟩
      refine EachesD.cons rfl ?_ ?_
      · intro W hW hD K hK
        clear hD
        go_simp
        exact hK.out _ _ ⟨_, by first | (simp only [Act.put, List.setIfInBounds_toArray, List.set_cons_zero, List.set_cons_succ]; done) | simp only [Act.put, List.setIfInBounds_toArray, List.set_cons_zero, List.set_cons_succ, *], G.refl _, rfl⟩
      refine EachesD.cons rfl ?_ ?_
      · intro W hW hD K hK
        clear hD
        go_simp
        go_wp2_with (go_at_call 60; refine Calls.mono (P := Tryz.prog) (HN2'.out _ W hW) ?_; intro e w9 hs; obtain ⟨u9, rfl, g9, hn9⟩ := hs)
        exact hK.out _ _ ⟨_, by first | (simp only [Act.put, List.setIfInBounds_toArray, List.set_cons_zero, List.set_cons_succ]; done) | simp only [Act.put, List.setIfInBounds_toArray, List.set_cons_zero, List.set_cons_succ, *], g9, hn9⟩
      exact EachesD.nil
    intro w3 g3 hH
    have h1 := Helds.get (v := v1) 1 hH rfl rfl
    have h3 := Helds.get (v := v3) 3 hH rfl rfl
    have h5 := Helds.get (v := v5) 5 hH rfl rfl
    clear hH
    obtain ⟨p, rfl, hp1, hp2⟩ := h1
    obtain ⟨pa, rfl, ha1, ha2, ha3⟩ := h3
    obtain ⟨pb, rfl, hb1, hb2, hb3⟩ := h5
    clear HN1' HN2' HO
    have HP : Hid (Rec _ _ _) := hp2
    have HPA : Hid (IntIs _ _ _ _) := ha3
    have HPB : Hid (IntIs _ _ _ _) := hb3
    have HL : Hid (pa < w3.heap.size ∧ pb < w3.heap.size) := ⟨ha2, hb2⟩
    clear hp2 ha3 hb3 ha2 hb2 ha1 hb1
    refine wpAnyJ_next (i := 6) (by kernel_rfl) rfl ?_
    intro K hK
    go_simp
    go_wp2_with (go_at_call 62; refine Calls.mono (P := Tryz.prog) (HS.out w3 p pa pb HL.out.1 HL.out.2 HP.out HPA.out HPB.out) ?_; intro e w4 hs; obtain ⟨rfl, hgx, hr4⟩ := hs)
    have g24 : G w2 w4 := GX.fresh g3 hgx hp1
    have hp4 : p < w4.heap.size := Nat.lt_of_lt_of_le HP.out.lt hgx.size
    have HR4 : Hid (RatIs _ _ _ _) := hr4
    clear hgx hr4 HP HPA HPB HL g3 HS
    refine hK.out _ _ (Or.inr g24) ?_
    clear hK K
    have g04 : G w0 w4 := G.trans g1 (G.trans g2 g24)
    have hSRA := Rec.f3 (Rec.G RA.out (g04))
    have hSRA_0 := hSRA.1
    have hSRA_1 := hSRA.2.1
    have hSRA_2 := hSRA.2.2.1
    have hSRA_3 := hSRA.2.2.2.1
    have hSRA_4 := hSRA.2.2.2.2.1
    have hSRA_5 := hSRA.2.2.2.2.2
    clear hSRA
    refine wpAnyJ_next (i := 7) (by kernel_rfl) rfl ?_
    intro K hK
    go_simp
    refine hK.out _ _ (Or.inl (by decide)) ?_
    clear hK K hSRA_0 hSRA_1 hSRA_2 hSRA_3 hSRA_4 hSRA_5
    refine wpAnyJ_next (i := 8) (by kernel_rfl) rfl ?_
    intro K hK
    go_simp
    refine hK.out _ _ (Or.inl (by decide)) ?_
    clear hK K
    refine wpAnyJ_done (by kernel_rfl) ?_ _
    have hpw : w.heap.size < p := by
      have k1 := g1.size
      have k2 := g2.size
      omega
    have hci : ∀ c ∈ [Value.bool false, .slice none 0 0, .slice none 0 0], ∀ k i, c ≠ .int k i := by
      intro c hc k i
      simp at hc
      rcases hc with rfl | rfl <;> (intro e; cases e)
    have HN8' : Num _ _ _ := num_set3 (u1 := .bool t9) (u2 := .slice a8 k8 c8) (u3 := .slice a9 k9 c9) (HM8.out.G (G.trans g2 g24)) (Rec.G RA.out (g04)) trivial trivial trivial
    have HN9' : Num _ _ _ := num_set3 (u1 := .bool t9) (u2 := .slice a8 k8 c8) (u3 := .slice a9 k9 c9) (HM9.out.G (G.trans g2 g24)) (Rec.G RA.out (g04)) trivial trivial trivial
    have HRA' : IntIs _ p 0 _ := int_set3 (u1 := .bool t9) (u2 := .slice a8 k8 c8) (u3 := .slice a9 k9 c9) HR4.out.1 (Nat.ne_of_gt hpw) (Rec.G RA.out (g04)) hci
    have HRB' : IntIs _ p 2 _ := int_set3 (u1 := .bool t9) (u2 := .slice a8 k8 c8) (u3 := .slice a9 k9 c9) HR4.out.2 (Nat.ne_of_gt hpw) (Rec.G RA.out (g04)) hci
    have hp9 : p < (((w4.setCell ⟨w.heap.size, 0, none⟩ (.bool t9)).setCell ⟨w.heap.size, 1, none⟩ (.slice a8 k8 c8)).setCell ⟨w.heap.size, 2, none⟩ (.slice a9 k9 c9)).heap.size := by simpa [World.setCell] using hp4
    clear hci HR4 HM8 HM9 hp4
    go_wp2_with fail
    have hT : Hid (Rec (World.setCell (World.setCell (World.setCell w4 ⟨w.heap.size, 0, none⟩ (.bool t9)) ⟨w.heap.size, 1, none⟩ (.slice a8 k8 c8)) ⟨w.heap.size, 2, none⟩ (.slice a9 k9 c9)) (w.heap.size) [.bool t9, .slice a8 k8 c8, .slice a9 k9 c9]) := Rec.set3 (Rec.G RA.out (g04))
    have g9 := Rec.g3 (b := w.heap.size) (u := .bool t9) (v := .slice a8 k8 c8) (x := .slice a9 k9 c9) (G.trans g0 g04) (by omega)
    generalize (World.setCell (World.setCell (World.setCell w4 ⟨w.heap.size, 0, none⟩ (.bool t9)) ⟨w.heap.size, 1, none⟩ (.slice a8 k8 c8)) ⟨w.heap.size, 2, none⟩ (.slice a9 k9 c9)) = w9 at *
    have hF := Rec.f3 (Rec.G hT.out ((G.refl _)))
    have hF_0 := hF.1
    have hF_1 := hF.2.1
    have hF_2 := hF.2.2.1
    have hF_3 := hF.2.2.2.1
    have hF_4 := hF.2.2.2.2.1
    have hF_5 := hF.2.2.2.2.2
    clear hF
    refine bodyPost_ret (v := .tuple #[.agg #[.bool t9, .slice a8 k8 c8, .slice a9 k9 c9], .pointer (some ⟨p, 0, none⟩)]) (by simp [results, Tryz.results29, go_sem, *]) rfl ?_
    exact ⟨_, p, rfl, g9, ⟨a8, k8, c8, a9, k9, c9, by rw [← HT9.out], HN8', HN9'⟩, Nat.le_of_lt hpw, hp9, HRA', HRB'⟩
end Go.Proofs.YtahfkkkfpcdjaabGreatDoor.EN
