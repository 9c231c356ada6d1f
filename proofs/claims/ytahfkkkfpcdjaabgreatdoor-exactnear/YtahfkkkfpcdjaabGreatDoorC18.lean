/- What is proved here: contracts of the reference's big numbers: Mul, Lsh, Abs, SetInt64 of Int, over this seat's translation. -/
import Derived.Test.YtahfkkkfpcdjaabGreatDoorC17
import Derived.Test.YtahfkkkfpcdjaabGreatDoorC13
namespace Go.Proofs.YtahfkkkfpcdjaabGreatDoor
open Go.ChangeShapes Go.WideShapes Go.ChangeAt Go.RowKit
open BN

theorem setI_c (w : World) (b o : Nat) (x : Int) (s0 : Int) (hx : -9223372036854775808 ≤ x ∧ x ≤ 9223372036854775807) (hb : b < w.heap.size) (hz : IntIs w b o s0) :
    Calls Tryz.prog 142 #[.pointer (some ⟨b, o, none⟩), .int .i64 x] w (SetTo w b o x) := by
  obtain ⟨hx1, hx2⟩ := hx
  have HW : Hid _ := words_c w x.natAbs (by omega)
  have HZ : Hid _ := hz
  clear hz
  by_cases hneg : x < 0
  · have hn0 : decide (x < 0) = true := by simpa using hneg
    have hw1 : IntKind.u64.wrap x = x + 18446744073709551616 := by rw [IntKind.wrap_u64]; omega
    have hw2 : IntKind.u64.wrap (-(x + 18446744073709551616)) = (x.natAbs : Int) := by rw [IntKind.wrap_u64]; omega
    have HS : Hid (sg true x.natAbs = x) := by show sg true x.natAbs = x; unfold sg; simp; omega
    generalize x.natAbs = a at *
    clear hneg
    go_enter Tryz.func142, Tryz.ntmps142
    go_wp2_with fail
    refine Calls.mono (P := Tryz.prog) HW.out ?_
    rintro e w2 ⟨v1, rfl, hg2, hn2⟩
    go_wp2_with fail
    refine Calls.mono (P := Tryz.prog) (SetTo_of (w0 := w) hb hg2 (give_is _ b o _ s0 _ _ (IntIs.G HZ.out hb hg2) hn2)) ?_
    rintro e w3 ⟨rfl, hs3⟩
    rw [HS.out] at hs3
    go_wp2_with fail
    go_ret
    exact hs3
  · have hn0 : decide (x < 0) = false := by simpa using hneg
    have hw1 : IntKind.u64.wrap x = (x.natAbs : Int) := by rw [IntKind.wrap_u64]; omega
    have HS : Hid (sg false x.natAbs = x) := by show sg false x.natAbs = x; unfold sg; simp; omega
    generalize x.natAbs = a at *
    clear hneg
    go_enter Tryz.func142, Tryz.ntmps142
    go_wp2_with fail
    refine Calls.mono (P := Tryz.prog) HW.out ?_
    rintro e w2 ⟨v1, rfl, hg2, hn2⟩
    go_wp2_with fail
    refine Calls.mono (P := Tryz.prog) (SetTo_of (w0 := w) hb hg2 (give_is _ b o _ s0 _ _ (IntIs.G HZ.out hb hg2) hn2)) ?_
    rintro e w3 ⟨rfl, hs3⟩
    rw [HS.out] at hs3
    go_wp2_with fail
    go_ret
    exact hs3

theorem int_new (w : World) (t : TypeId) : IntIs (w.alloc (.cells #[.bool false, .slice none 0 0] t)) w.heap.size 0 0 := by
  refine ⟨false, .slice none 0 0, 0, ⟨?_, ?_, World.frozen?_alloc_at _ _ _ _ rfl, World.frozen?_alloc_at _ _ _ _ rfl⟩, num_nil _ _ _, rfl, fun h => by cases h⟩
  · rw [World.cell?_alloc_at _ _ _ _ rfl]; rfl
  · rw [World.cell?_alloc_at _ _ _ _ rfl]; rfl

/-- A call hands back a new Int that holds s; nothing that was there has turned. -/
def RetI (w : World) (s : Int) (e : Ending) (w' : World) : Prop := ∃ p, e = .returned (.pointer (some ⟨p, 0, none⟩)) ∧ G w w' ∧ w.heap.size ≤ p ∧ p < w'.heap.size ∧ IntIs w' p 0 s
/-- What a method leaves behind that sets a new Int. -/
theorem SetTo.ret {w0 w : World} {b : Nat} {s : Int} {e : Ending} {w' : World} (g : G w0 w) (hb : w0.heap.size ≤ b) (hs : b < w.heap.size) (h : SetTo w b 0 s e w') : RetI w0 s e w' := by
  obtain ⟨rfl, h2, -, h4⟩ := h
  exact ⟨b, rfl, GX.fresh g h2 hb, hb, Nat.lt_of_lt_of_le hs h2.size, h4⟩

theorem newI_c (w : World) (x : Int) (hx : -9223372036854775808 ≤ x ∧ x ≤ 9223372036854775807) : Calls Tryz.prog 60 #[.int .i64 x] w (RetI w x) := by
  have HS : Hid (∀ w1 b, b < w1.heap.size → IntIs w1 b 0 0 → _) := fun w1 b h1 h2 => setI_c w1 b 0 x 0 hx h1 h2
  clear hx
  go_enter Tryz.func60, Tryz.ntmps60
  go_wp2_with fail
  refine Calls.mono (P := Tryz.prog) (HS.out _ w.heap.size (by simp) (int_new w _)) ?_
  intro e w1 h
  have h2 := SetTo.ret ((G.refl w).alloc _) (Nat.le_refl _) (by simp) h
  obtain ⟨p, rfl, h3⟩ := h2
  go_wp2_with fail
  go_ret
  exact ⟨p, rfl, h3⟩

end Go.Proofs.YtahfkkkfpcdjaabGreatDoor
