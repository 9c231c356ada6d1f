/- What is proved here: contracts of the reference: powers of two as ratios, over this seat's translation. -/
import Derived.Test.YtkimdkgijfknlaaC19
namespace Go.Proofs.Ytkimdkgijfknlaa
open Go.ChangeShapes Go.WideShapes Go.ChangeAt Go.RowKit
open BN

/-- A call hands back a new Rat; nothing that was there has turned. -/
def RetR (w : World) (sa : Int) (sb : Nat) (e : Ending) (w' : World) : Prop := ∃ p, e = .returned (.pointer (some ⟨p, 0, none⟩)) ∧ G w w' ∧ w.heap.size ≤ p ∧ p < w'.heap.size ∧ RatIs w' p sa (sb : Int)
theorem NormTo.ret {w0 w : World} {b : Nat} {sa : Int} {sb : Nat} {e : Ending} {w' : World} (g : G w0 w) (hb : w0.heap.size ≤ b) (hs : b < w.heap.size) (h : NormTo w b sa sb e w') : RetR w0 sa sb e w' :=
  ⟨b, h.1, GX.fresh g h.2.1 hb, hb, Nat.lt_of_lt_of_le hs h.2.1.size, h.2.2⟩

theorem pow2_up (w : World) (k K : Nat) (hk : k ≤ 6000) (hK : K ≤ 300) (hkK : k < 32 * K) : Calls Try.prog 30 #[.int .i64 (k : Int)] w (RetR w (2 ^ k : Nat) 1) := by
  have hkb : (k : Int) ≤ 6000 := by omega
  have H2K : Hid (2 ^ k < 2 ^ (32 * K)) := Nat.pow_lt_pow_right (by omega) hkK
  have HK1 : Hid (1 ≤ K ∧ 1 < 2 ^ (32 * K)) := ⟨by omega, Nat.one_lt_two_pow (by omega)⟩
  go_enter Try.func30, Try.ntmps30
  go_wp2_with fail
  have hn0 := NI.new (G.refl w) 62
  have hGa := (G.refl w).alloc (.cells #[.bool false, .slice none 0 0] 62)
  generalize w.heap.size = pn at *
  generalize w.alloc (.cells #[.bool false, .slice none 0 0] 62) = wa at *
  refine Calls.mono (P := Try.prog) (newI_c wa 1 (by omega)) ?_
  intro e w1 h
  obtain ⟨p1, rfl, hg1, hp1, hp2, hpi⟩ := h
  have hG1 := G.trans hGa hg1
  have hN1 := hn0.G hg1
  have HL : Hid _ := lshI_c w1 pn 0 p1 0 k 0 1 K (by omega) (by omega) HK1.out.2 hN1.2.1 hp2 hN1.2.2 hpi
  have HN1 : Hid (NI w w1 pn 0) := hN1
  clear hn0 hGa hg1 hp1 hp2 hpi hN1
  go_wp2_with fail
  refine Calls.mono (P := Try.prog) HL.out ?_
  intro e w2 hs
  obtain ⟨rfl, hG2, hN2, -, -⟩ := SetTo.step hG1 HN1.out hs
  rw [show (1 : Int) * 2 ^ k = ((2 ^ k : Nat) : Int) from by push_cast; rw [Int.one_mul]] at hN2
  have HN2 : Hid (NI w w2 pn ((2 ^ k : Nat) : Int)) := hN2
  clear hs hN2 HL HN1 hG1
  go_wp2_with fail
  have hr0 := rat_new w2 64
  have hga := (G.refl w2).alloc (.cells #[.bool false, .slice none 0 0, .bool false, .slice none 0 0] 64)
  have hN3 := HN2.out.G hga
  have hG3 := G.trans hG2 hga
  have hzs : w2.heap.size < (w2.alloc (.cells #[.bool false, .slice none 0 0, .bool false, .slice none 0 0] 64)).heap.size := by simp
  have hz0 : w.heap.size ≤ w2.heap.size := hG2.size
  generalize w2.heap.size = pz at *
  generalize w2.alloc (.cells #[.bool false, .slice none 0 0, .bool false, .slice none 0 0] 64) = w3 at *
  have HS : Hid _ := setInt_c w3 pz pn 0 0 0 ((2 ^ k : Nat) : Int) K (by omega) HK1.out.1 (by rw [Int.natAbs_natCast]; exact H2K.out) hzs hN3.2.1 hr0 hN3.2.2
  clear hr0 hga hN3 HN2 hG2
  refine Calls.mono (P := Try.prog) HS.out ?_
  intro e w4 hs
  obtain ⟨p, rfl, k1, k2, k3, k4⟩ := NormTo.ret hG3 hz0 hzs hs
  have HK4 : Hid (RatIs w4 p ((2 ^ k : Nat) : Int) ((1 : Nat) : Int)) := k4
  clear hs k4 HS
  go_wp2_with fail
  go_ret
  exact ⟨p, rfl, k1, k2, k3, HK4.out⟩

theorem pow2_down (w : World) (k K : Nat) (hk0 : 0 < k) (hk : k ≤ 6000) (hK : K ≤ 300) (hkK : k < 32 * K) : Calls Try.prog 30 #[.int .i64 (-(k : Int))] w (RetR w 1 (2 ^ k)) := by
  have hkb : (k : Int) ≤ 6000 := by omega
  have hkp : (1 : Int) ≤ k := by omega
  have H2K : Hid (2 ^ k < 2 ^ (32 * K)) := Nat.pow_lt_pow_right (by omega) hkK
  have HK1 : Hid (1 ≤ K ∧ 1 < 2 ^ (32 * K)) := ⟨by omega, Nat.one_lt_two_pow (by omega)⟩
  have HEQ : Hid (Int.tdiv 1 (Nat.gcd (1 : Int).natAbs (2 ^ k) : Nat) = 1 ∧ 2 ^ k / Nat.gcd (1 : Int).natAbs (2 ^ k) = 2 ^ k) := by
    have : Nat.gcd (1 : Int).natAbs (2 ^ k) = 1 := Nat.gcd_one_left _
    rw [this]; exact ⟨rfl, Nat.div_one _⟩
  go_enter Try.func30, Try.ntmps30
  go_wp2_with fail
  have hn0 := NI.new (G.refl w) 62
  have hGa := (G.refl w).alloc (.cells #[.bool false, .slice none 0 0] 62)
  generalize w.heap.size = pn at *
  generalize w.alloc (.cells #[.bool false, .slice none 0 0] 62) = wa at *
  refine Calls.mono (P := Try.prog) (newI_c wa 1 (by omega)) ?_
  intro e w1 h
  obtain ⟨p1, rfl, hg1, hp1, hp2, hpi⟩ := h
  have hG1 := G.trans hGa hg1
  have hN1 := hn0.G hg1
  have HL : Hid _ := lshI_c w1 pn 0 p1 0 k 0 1 K (by omega) (by omega) HK1.out.2 hN1.2.1 hp2 hN1.2.2 hpi
  have HN1 : Hid (NI w w1 pn 0) := hN1
  clear hn0 hGa hg1 hp1 hp2 hpi hN1
  go_wp2_with fail
  refine Calls.mono (P := Try.prog) HL.out ?_
  intro e w2 hs
  obtain ⟨rfl, hG2, hN2, -, -⟩ := SetTo.step hG1 HN1.out hs
  rw [show (1 : Int) * 2 ^ k = ((2 ^ k : Nat) : Int) from by push_cast; rw [Int.one_mul]] at hN2
  have HN2 : Hid (NI w w2 pn ((2 ^ k : Nat) : Int)) := hN2
  clear hs hN2 HL HN1 hG1
  go_wp2_with fail
  have hr0 := rat_new w2 64
  have hga := (G.refl w2).alloc (.cells #[.bool false, .slice none 0 0, .bool false, .slice none 0 0] 64)
  have hN3 := HN2.out.G hga
  have hG3 := G.trans hG2 hga
  have hzs : w2.heap.size < (w2.alloc (.cells #[.bool false, .slice none 0 0, .bool false, .slice none 0 0] 64)).heap.size := by simp
  have hz0 : w.heap.size ≤ w2.heap.size := hG2.size
  generalize w2.heap.size = pz at *
  generalize w2.alloc (.cells #[.bool false, .slice none 0 0, .bool false, .slice none 0 0] 64) = w3 at *
  have HR3 : Hid (RatIs w3 pz 0 0) := hr0
  have HN3 : Hid (NI w w3 pn ((2 ^ k : Nat) : Int)) := hN3
  clear hr0 hga hN3 HN2 hG2
  refine Calls.mono (P := Try.prog) (newI_c w3 1 (by omega)) ?_
  intro e w4 h
  obtain ⟨p4, rfl, hg4, -, hp42, hp4i⟩ := h
  have hG4 := G.trans hG3 hg4
  have hN4 := HN3.out.G hg4
  have HS : Hid _ := setFrac_c w4 pz p4 0 pn 0 0 0 1 (2 ^ k) K (by omega) HK1.out.2 H2K.out (Nat.two_pow_pos k) (G.lt hg4 hzs) hp42 hN4.2.1 (HR3.out.G hzs hg4) hp4i hN4.2.2
  rw [HEQ.out.1, HEQ.out.2] at HS
  have hzs4 := G.lt hg4 hzs
  clear hg4 hp42 hp4i hN4 HN3 HR3 hG3
  go_wp2_with fail
  refine Calls.mono (P := Try.prog) HS.out ?_
  intro e w5 hs
  obtain ⟨p, rfl, k1, k2, k3, k4⟩ := NormTo.ret hG4 hz0 hzs4 hs
  have HK4 : Hid (RatIs w5 p 1 ((2 ^ k : Nat) : Int)) := k4
  clear hs k4 HS
  go_wp2_with fail
  go_ret
  exact ⟨p, rfl, k1, k2, k3, HK4.out⟩

end Go.Proofs.Ytkimdkgijfknlaa
