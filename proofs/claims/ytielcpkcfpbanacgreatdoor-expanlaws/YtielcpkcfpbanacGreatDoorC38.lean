/- What is proved here: the law on sums of lists, whatever the lists; slices of numbers as arguments, over this seat's translation. -/
import Derived.Test.YtielcpkcfpbanacGreatDoorC37
import Derived.ChangeArms
import Derived.Deep.Slices
namespace Go.Proofs.YtielcpkcfpbanacGreatDoor.EN
open Go.ChangeShapes Go.WideShapes Go.ChangeAt Go.RowKit

theorem expanLaws_c (w : World) (v u : Value) (l : List Nat) (ts : List Int) (hT : Tab w) (hv : FSl w v l) (hu : ISl w u ts) (hl : ∀ b ∈ l, b < 2 ^ 64) (hts : ∀ i, -9223372036854775808 ≤ ts.getD i 0 ∧ ts.getD i 0 < 9223372036854775808) :
    Calls Tryz.prog 6 #[v, u] w fun e w' => e = .returned (.bool true) ∧ G w w' := by
  have HS : ∀ w1, G w w1 → Calls Tryz.prog 7 #[] w1 fun e w' => e = .returned (.bool true) ∧ G w1 w' := fun w1 g => several_c w1 (hT.G g)
  by_cases h1 : 300 < l.length
  · obtain ⟨pa, ca, rfl, -, -⟩ := hv
    obtain ⟨pb, cb, rfl, -, -⟩ := hu
    exact laws_long w pa pb l.length ca ts.length cb h1 HS
  · by_cases h2 : 1000 < ts.length
    · obtain ⟨pa, ca, rfl, -, -⟩ := hv
      obtain ⟨pb, cb, rfl, -, -⟩ := hu
      exact laws_turns w pa pb l.length ca ts.length cb (by omega) h2 HS
    · exact laws_x w v u l ts hT hv hu hl (by omega) (by omega) hts HS

theorem plain_addr {w : World} {a : Addr} {v : Value} (h : w.cell? (a.add 0) = some v) : ∃ b o, a = ⟨b, o, none⟩ ∧ b < w.heap.size := by
  obtain ⟨b, o, s⟩ := a
  have h2 : w.cell? ⟨b, o, s⟩ = some v := h
  have hlt := World.block_lt_of_cell? w ⟨b, o, s⟩ h2
  cases s with
  | none => exact ⟨b, o, rfl, hlt⟩
  | some s =>
    exfalso
    simp only [World.cell?] at h2
    split at h2
    · simp at h2
    · cases h2
section
variable {H : Type} {enc : TypeId × Value → H} {P : Program} {w : World} {base fuel : Nat} {spare : Nat → Bool} {held : Bool} {t e : TypeId}
theorem trod_flt {k : FloatKind} {cs : List Value} {x : DataW H × List MemPlace} (ht : P.underlying t = some (.float k)) (h : DataW.trod enc P w base spare held fuel t cs = some x) : ∃ b, cs = [.float k b] ∧ (Lit.float k b).wf = true := by
  cases fuel with
  | zero => simp [DataW.trod] at h
  | succ n =>
    unfold DataW.trod at h
    rw [ht] at h
    split at h <;> simp_all
def bitsOf : Value → Nat
  | .float _ b => b
  | _ => 0
def numOf' : Value → Int
  | .int _ z => z
  | _ => 0
theorem fsl_open {v : Value} {d : DataW H} {ps : List MemPlace} (ht : P.underlying t = some (.slice e)) (he : P.underlying e = some (.float .f64)) (hc : P.cellsOf e = 1) (hv : v.cells = #[v])
    (h : DataW.Trod enc P w 0 (fun _ => true) true t v d ps) : ∃ l, FSl w v l ∧ ∀ b ∈ l, b < 2 ^ 64 := by
  obtain ⟨fuel, hf⟩ := h
  rcases Go.Deep.open_slice1 ht hc hf with ⟨h1, -⟩ | ⟨a, len, cap, m, n, V, D, Pl, h1, -, h2, -, h3, -, h4⟩
  · rw [hv] at h1
    have e1 : v = .slice none 0 0 := by simpa using h1
    subst e1
    exact ⟨[], fsl_nil _ _ _, fun _ h => (nomatch h)⟩
  · rw [hv] at h1
    have e1 : v = .slice (some a) len cap := by simpa using h1
    subst e1
    have hm : m = cap := by rw [h3]; rfl
    have hV : ∀ i, i < len → V i = .float .f64 (bitsOf (V i)) ∧ bitsOf (V i) < 2 ^ 64 := fun i hi => by
      obtain ⟨b, e2, hw⟩ := trod_flt he (h4 i (by omega)).2
      have e3 : V i = .float .f64 b := by simpa using e2
      rw [e3]
      exact ⟨rfl, by simpa [Lit.wf, bitsOf] using hw⟩
    refine ⟨(List.range len).map fun i => bitsOf (V i), ⟨some a, cap, by simp, by simpa using h2, fun i hi => ?_⟩, fun b hb => ?_⟩
    · have hi' : i < len := by simpa using hi
      obtain ⟨b, o, rfl, hb⟩ := plain_addr (h4 0 (by omega)).1
      have hcell := (h4 i (by omega)).1
      rw [addr_add] at hcell
      refine ⟨b, o, rfl, hb, ?_⟩
      rw [hcell, (hV i hi').1]
      simp [List.getD_eq_getElem?_getD, hi', bitsOf]
    · obtain ⟨i, hi, rfl⟩ := List.mem_map.1 hb
      exact (hV i (by simpa using hi)).2
theorem isl_open {v : Value} {d : DataW H} {ps : List MemPlace} (ht : P.underlying t = some (.slice e)) (he : P.underlying e = some (.int .i64)) (hc : P.cellsOf e = 1) (hv : v.cells = #[v])
    (h : DataW.Trod enc P w 0 (fun _ => true) true t v d ps) : ∃ l, ISl w v l ∧ ∀ i, -9223372036854775808 ≤ l.getD i 0 ∧ l.getD i 0 < 9223372036854775808 := by
  obtain ⟨fuel, hf⟩ := h
  rcases Go.Deep.open_slice1 ht hc hf with ⟨h1, -⟩ | ⟨a, len, cap, m, n, V, D, Pl, h1, -, h2, -, h3, -, h4⟩
  · rw [hv] at h1
    have e1 : v = .slice none 0 0 := by simpa using h1
    subst e1
    exact ⟨[], ⟨_, _, rfl, Nat.zero_le _, fun _ h => (nomatch h)⟩, fun i => by simp⟩
  · rw [hv] at h1
    have e1 : v = .slice (some a) len cap := by simpa using h1
    subst e1
    have hm : m = cap := by rw [h3]; rfl
    have hV : ∀ i, i < len → V i = .int .i64 (numOf' (V i)) ∧ -9223372036854775808 ≤ numOf' (V i) ∧ numOf' (V i) < 9223372036854775808 := fun i hi => by
      obtain ⟨b, e2, -, hw⟩ := DataW.trod_int he (h4 i (by omega)).2
      have e3 : V i = .int .i64 b := by simpa using e2
      rw [e3]
      have hw2 : -9223372036854775808 ≤ b ∧ b ≤ 9223372036854775807 := by simpa [Lit.wf, IntKind.min, IntKind.max, IntKind.bits, IntKind.signed] using hw
      exact ⟨rfl, hw2.1, by show b < _; omega⟩
    refine ⟨(List.range len).map fun i => numOf' (V i), ⟨some a, cap, by simp, by simpa using h2, fun i hi => ?_⟩, fun i => ?_⟩
    · have hi' : i < len := by simpa using hi
      obtain ⟨b, o, rfl, hb⟩ := plain_addr (h4 0 (by omega)).1
      have hcell := (h4 i (by omega)).1
      rw [addr_add] at hcell
      refine ⟨b, o, rfl, hb, ?_⟩
      rw [hcell, (hV i hi').1]
      simp [List.getD_eq_getElem?_getD, hi', numOf']
    · by_cases hi : i < len
      · have : ((List.range len).map fun i => numOf' (V i)).getD i 0 = numOf' (V i) := by simp [List.getD_eq_getElem?_getD, hi]
        rw [this]
        exact (hV i hi).2
      · have : ((List.range len).map fun i => numOf' (V i)).getD i 0 = 0 := by simp [List.getD_eq_getElem?_getD, hi]
        rw [this]
        exact ⟨by omega, by omega⟩
end
end Go.Proofs.YtielcpkcfpbanacGreatDoor.EN
