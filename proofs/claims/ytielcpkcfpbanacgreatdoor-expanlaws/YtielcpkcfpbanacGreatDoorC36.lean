/- What is proved here: the law on sums of lists: small functions, slices of ints, over this seat's translation. -/
import Derived.Test.YtielcpkcfpbanacGreatDoorC34
import Derived.Deep.Upon
namespace Go.Proofs.YtielcpkcfpbanacGreatDoor.EN
open Go.ChangeShapes Go.WideShapes Go.ChangeAt Go.RowKit
attribute [local go_sem] run_store_flt

/-- A slice of ints. -/
def ISl (w : World) (v : Value) (l : List Int) : Prop :=
  ∃ a c, v = .slice a l.length c ∧ l.length ≤ c ∧ ∀ i, i < l.length → ∃ b o, a = some ⟨b, o, none⟩ ∧ b < w.heap.size ∧ w.cell? ⟨b, o + i, none⟩ = some (.int .i64 (l.getD i 0))

theorem enough_c (w : World) (n : Nat) (hn : n ≤ 300) : Calls Tryz.prog 8 #[.int .i64 (n : Int)] w fun e w' => e = .returned (.bool true) ∧ G w w' := by
  have h : decide ((n : Int) ≤ 300) = true := decide_eq_true (by omega)
  go_enter Tryz.func8, Tryz.ntmps8
  go_wp2_with fail
  go_ret
  exact ⟨rfl, G.refl _⟩
theorem enough_any (w : World) (n : Nat) (hn : 300 < n) : ∃ t, Calls Tryz.prog 8 #[.int .i64 (n : Int)] w fun e w' => e = .returned (.bool t) ∧ G w w' := by
  have h : decide ((n : Int) ≤ 300) = false := decide_eq_false (by omega)
  by_cases h2 : (2000 : Int) < n
  · refine ⟨decide ((n : Int) < 5000), ?_⟩
    have h3 : decide ((2000 : Int) < n) = true := decide_eq_true h2
    go_enter Tryz.func8, Tryz.ntmps8
    go_wp2_with fail
    go_ret
    exact ⟨by simp, G.refl _⟩
  · refine ⟨false, ?_⟩
    have h3 : decide ((2000 : Int) < n) = false := decide_eq_false h2
    go_enter Tryz.func8, Tryz.ntmps8
    go_wp2_with fail
    go_ret
    exact ⟨by simp, G.refl _⟩
/-- What is appended may be nothing. -/
theorem app_fsl (w : World) (base : Nat) (v src : Value) (l m : List Nat) (h : FOwn w base v l) (hb : base ≤ w.heap.size) (hsrc : FSl w src m) (hlen : l.length + m.length ≤ 1000000) :
    ∃ v' w', (Builtin.append_ #[22, 22] 22 #[v, src]).run Tryz.prog w = .ok v' w' ∧ FOwn w' base v' (l ++ m) ∧ Onto base v w w' := by
  obtain ⟨a, c, rfl, -, hr⟩ := hsrc
  by_cases hm : m = []
  · subst hm
    obtain ⟨i, hi, -⟩ := infoF
    have hS : Src Tryz.prog i.size 22 (.slice a 0 c) 0 [] w := by
      cases a with
      | none => exact Src.ofNil w Tryz.underlying22 c
      | some a => exact Src.ofSlice w Tryz.underlying22 a 0 c [] (by simp) (fun j u hu => by simp at hu) (fun u hu => by cases hu)
    have hl : ∃ ao n cap, v = .slice ao n cap ∧ n ≤ cap := by
      rcases h with ⟨rfl, -⟩ | ⟨g, cap, cur, rfl, -, -, h3, -⟩
      · exact ⟨_, _, _, rfl, Nat.le_refl _⟩
      · exact ⟨_, _, _, rfl, h3⟩
    obtain ⟨ao, n, cap, rfl, hle⟩ := hl
    refine ⟨_, w, run_append_nothing (P := Tryz.prog) w 22 22 22 26 i Tryz.underlying22 hi ao n cap hle _ hS, by rw [List.append_nil]; exact h, onto_new (G.refl w)⟩
  · have hpos : 0 < m.length := List.length_pos_iff.2 hm
    obtain ⟨b, o, rfl, -, -⟩ := hr 0 hpos
    refine app_own w base v l m h hb ⟨b, o, none⟩ m.length c rfl (fun j hj => ?_) hlen hpos
    obtain ⟨b2, o2, e2, -, h2⟩ := hr j hj
    injection e2 with e2
    injection e2 with e4 e5
    subst e4; subst e5
    rw [addr_add]
    exact h2
theorem fown_none (w : World) (base b : Nat) (t : TypeId) (hb : base ≤ w.heap.size) (e : b = w.heap.size) (ht : t = 26) : FOwn (w.alloc (.cells #[] t)) base (.slice (some ⟨b, 0, none⟩) 0 0) [] := by
  subst e; subst ht
  exact Or.inr ⟨w.heap.size, 0, #[], rfl, hb, heap_alloc_new w _, Nat.le_refl _, Nat.zero_le _, rfl, rfl, fun x hx => by simp at hx⟩
theorem samefloat_c (w : World) (b : Nat) (h : (FloatKind.f64.format.order b b == some .eq) = true) : Calls Tryz.prog 20 #[.float .f64 b, .float .f64 b] w fun e w' => e = .returned (.bool true) ∧ G w w' := by
  go_enter Tryz.func20, Tryz.ntmps20
  go_wp2_with fail
  go_ret
  exact ⟨rfl, G.refl _⟩

/-- Lists that are too long: nothing is asked. -/
theorem laws_long (w : World) (pa pb : Option Addr) (n ca k cb : Nat) (hn : 300 < n)
    (HS : ∀ w1, G w w1 → Calls Tryz.prog 7 #[] w1 fun e w' => e = .returned (.bool true) ∧ G w1 w') :
    Calls Tryz.prog 6 #[.slice pa n ca, .slice pb k cb] w fun e w' => e = .returned (.bool true) ∧ G w w' := by
  have H1 : Hid (∀ w1, G w w1 → _) := HS
  have H2 : Hid (∀ w1, _) := fun w1 => enough_any w1 n hn
  have h3 : decide ((300 : Int) < n) = true := decide_eq_true (by omega)
  clear HS
  go_enter Tryz.func6, Tryz.ntmps6
  go_wp2_with fail
  refine Calls.mono (P := Tryz.prog) (H1.out w (G.refl _)) ?_
  rintro e w1 ⟨rfl, g1⟩
  go_wp2_with fail
  obtain ⟨t, h2⟩ := H2.out w1
  refine Calls.mono (P := Tryz.prog) h2 ?_
  rintro e w2 ⟨rfl, g2⟩
  cases t
  · go_wp2_with fail
    go_ret
    exact ⟨rfl, G.trans g1 g2⟩
  · go_wp2_with fail
    go_ret
    exact ⟨rfl, G.trans g1 g2⟩
theorem laws_turns (w : World) (pa pb : Option Addr) (n ca k cb : Nat) (hn : n ≤ 300) (hk : 1000 < k)
    (HS : ∀ w1, G w w1 → Calls Tryz.prog 7 #[] w1 fun e w' => e = .returned (.bool true) ∧ G w1 w') :
    Calls Tryz.prog 6 #[.slice pa n ca, .slice pb k cb] w fun e w' => e = .returned (.bool true) ∧ G w w' := by
  have H1 : Hid (∀ w1, G w w1 → _) := HS
  have H2 : Hid (∀ w1, _) := fun w1 => enough_c w1 n hn
  have h3 : decide ((300 : Int) < n) = false := decide_eq_false (by omega)
  have h4 : decide ((1000 : Int) < k) = true := decide_eq_true (by omega)
  clear HS
  go_enter Tryz.func6, Tryz.ntmps6
  go_wp2_with fail
  refine Calls.mono (P := Tryz.prog) (H1.out w (G.refl _)) ?_
  rintro e w1 ⟨rfl, g1⟩
  go_wp2_with fail
  refine Calls.mono (P := Tryz.prog) (H2.out w1) ?_
  rintro e w2 ⟨rfl, g2⟩
  go_wp2_with fail
  go_ret
  exact ⟨rfl, G.trans g1 g2⟩

end Go.Proofs.YtielcpkcfpbanacGreatDoor.EN
