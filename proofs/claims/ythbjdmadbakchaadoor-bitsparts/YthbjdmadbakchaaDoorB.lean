/- What is proved here: contracts of the small functions of package bits (formats), over this seat's translation. -/
import Derived.Test.YthbjdmadbakchaaDoorRows
import Derived.Test.YthbjdmadbakchaaDoorF
import Derived.WalkKit
import Derived.ProofKit
import Derived.OpenShut
import Derived.WalkLawsBesides
import Derived.Handy
import Derived.Deep.QuietTactic
import Derived.BigQuiet
import Derived.Deep.RegionWith
namespace Go.Proofs.YthbjdmadbakchaaDoor
open Go.ChangeShapes Go.WideShapes Go.ChangeAt Go.RowKit

/-- Nothing that was there has turned; the rest is new. -/
def G (w w' : World) : Prop := Below w.heap.size w w'
theorem G.refl (w : World) : G w w := Below.refl _ _
theorem G.trans {a b c : World} (h : G a b) (k : G b c) : G a c := Below.trans h (Below.mono k (Below.size h))
theorem G.alloc {a b : World} (h : G a b) (o : Obj) : G a (b.alloc o) := Below.alloc h (Below.size h) o
theorem G.drew {a b : World} (h : G a b) : G a b.drew := Below.drew h
theorem G.drewN {a b : World} (h : G a b) (n : Nat) : G a (b.drewN n) := below_drewN h n
theorem G.setCell {a b : World} (h : G a b) {p : Addr} (hp : a.heap.size ≤ p.block) (u : Value) : G a (b.setCell p u) := Below.setCell h hp u
theorem G.size {a b : World} (h : G a b) : a.heap.size ≤ b.heap.size := Below.size h
theorem G.cell {a b : World} (h : G a b) {p : Addr} {v : Value} (hp : p.block < a.heap.size) (hv : a.cell? p = some v) : b.cell? p = some v := (Below.cell h hp).trans hv
theorem G.frozen {a b : World} (h : G a b) {p : Addr} {v : Bool} (hp : p.block < a.heap.size) (hv : a.frozen? p = v) : b.frozen? p = v := (Below.frozen h hp).trans hv

/-- w with blocks behind its heap, whatever has been drawn ('p' brings both). -/
def gw (w : World) (p : World) : World := { w with heap := w.heap ++ p.heap, drawn := p.drawn }
theorem gw_G (w : World) (p : World) : G w (gw w p) :=
  ⟨rfl, rfl, rfl, by simp [gw], fun k hk => by simp [gw, Array.getElem?_append, hk]⟩
theorem G.ex {w w' : World} (h : G w w') : ∃ p, w' = gw w p := by
  obtain ⟨h1, h2, h3, h4, h5⟩ := h
  refine ⟨{ w' with heap := w'.heap.extract w.heap.size }, ?_⟩
  have hh : w'.heap = w.heap ++ w'.heap.extract w.heap.size := by
    apply Array.ext_getElem?
    intro k
    by_cases hk : k < w.heap.size
    · rw [h5 k hk, Array.getElem?_append_left hk]
    · rw [Array.getElem?_append_right (by omega), Array.getElem?_extract]
      by_cases hk2 : k < w'.heap.size
      · rw [if_pos (by omega)]
        congr 1
        omega
      · rw [if_neg (by omega), Array.getElem?_eq_none (by omega)]
  cases w; cases w'
  simp only [gw] at *
  subst h1 h2 h3
  rw [← hh]
theorem gw_cell {w : World} {a : Addr} {x : Value} (hb : a.block < w.heap.size) (h : w.cell? a = some x) (p : World) : (gw w p).cell? a = some x := (gw_G w p).cell hb h
theorem quiet_gw {P : Program} {f : FuncId} {args : Array Value} {w : World} {p : World} {x : Value}
    (h : Calls P f args (gw w p) fun e w' => e = .returned x ∧ G (gw w p) w') : Calls P f args (gw w p) fun e w'' => e = .returned x ∧ ∃ q, w'' = gw w q :=
  h.mono fun _ _ ⟨he, hG⟩ => ⟨he, (G.trans (gw_G w p) hG).ex⟩
theorem region_gw {P : Program} {id : Nat} {Q : Exit → Act → World → Prop} {a : Act} {w : World} {l : List Oper} (hm : P.follows .mixedOrders = true) (hB : Region.lexB .any l.toArray = true)
    (h : ∀ W, W = w → wpQuiet P l.toArray (fun w' => ∃ p : World, w' = gw W p) (fun a' => ∀ w', G w w' → Q .normal a' w') l a) : (Code.region id l.toArray true).wp P Q a w := by
  refine wp_region_quiet (C := fun w' => ∃ p : World, w' = gw w p) hm hB ((G.refl w).drew.ex) ?_
  have h2 := h w rfl
  have e : (fun a' => ∀ w', G w w' → Q .normal a' w') = (fun a' => ∀ w', (∃ p : World, w' = gw w p) → Q .normal a' w') := by
    funext a'
    apply propext
    constructor
    · intro hh w' ⟨p, hp⟩; rw [hp]; exact hh _ (gw_G w p)
    · intro hh w' hw; exact hh w' hw.ex
  rw [e] at h2
  simpa using h2

theorem frombits_r (n : Int) (w : World) : (callFunc 45 #[Value.int IntKind.u64 n]).run Tryd.prog w = .ok (.value (.float .f64 n.toNat)) w := by kernel_rfl
theorem tobits_r (n : Nat) (w : World) : (callFunc 11 #[Value.float .f64 n]).run Tryd.prog w = .ok (.value (.int .u64 n)) w := by kernel_rfl

theorem ret_int {k : IntKind} {a b : Int} (h : a = b) : Ending.returned (.int k a) = .returned (.int k b) := by rw [h]
theorem pow_le {a b : Nat} (h : a ≤ b) : (2 : Nat) ^ a ≤ 2 ^ b := Nat.pow_le_pow_right (by omega) h
theorem pow_bd {E n : Nat} (h : E ≤ n) : (1 : Int) ≤ 2 ^ E ∧ (2 : Int) ^ E ≤ 2 ^ n := by
  have h1 := pow_le h
  have h2 := Nat.two_pow_pos E
  constructor
  · have : ((1 : Nat) : Int) ≤ ((2 ^ E : Nat) : Int) := by omega
    simpa using this
  · have : ((2 ^ E : Nat) : Int) ≤ ((2 ^ n : Nat) : Int) := by omega
    simpa using this

theorem greatest_c (E F : Nat) (w : World) (h1 : E ≤ 11) :
    Calls Tryd.prog 30 #[.agg #[.int .i64 E, .int .i64 F]] w fun e w' => e = .returned (.int .i64 (2 ^ E - 1)) ∧ G w w' := by
  have hp := pow_bd h1
  go_enter Tryd.func30, Tryd.ntmps30
  go_wp2
  go_ret
  refine ⟨ret_int ?_, (G.refl _).alloc _⟩
  go_arith

theorem less_c (E F : Nat) (w : World) (h0 : 1 ≤ E) (h1 : E ≤ 11) :
    Calls Tryd.prog 46 #[.agg #[.int .i64 E, .int .i64 F]] w fun e w' => e = .returned (.int .i64 (2 ^ (E - 1) - 1)) ∧ G w w' := by
  have hp := pow_bd (show E - 1 ≤ 11 by omega)
  go_enter Tryd.func46, Tryd.ntmps46
  go_wp2

  go_ret
  refine ⟨ret_int ?_, (G.refl _).alloc _⟩
  go_arith

theorem leading_c (E F : Nat) (w : World) (h1 : F ≤ 63) :
    Calls Tryd.prog 34 #[.agg #[.int .i64 E, .int .i64 F]] w fun e w' => e = .returned (.int .u64 (2 ^ F)) ∧ G w w' := by
  have hp := pow_bd h1
  go_enter Tryd.func34, Tryd.ntmps34
  go_wp2
  go_ret
  refine ⟨ret_int ?_, (G.refl _).alloc _⟩
  go_arith

theorem sign_c (E F : Nat) (w : World) (h1 : E + F ≤ 63) :
    Calls Tryd.prog 48 #[.agg #[.int .i64 E, .int .i64 F]] w fun e w' => e = .returned (.int .u64 (2 ^ (E + F))) ∧ G w w' := by
  have hp := pow_bd h1
  go_enter Tryd.func48, Tryd.ntmps48
  go_wp2

  go_ret
  refine ⟨ret_int ?_, (G.refl _).alloc _⟩
  go_arith

theorem double_c (w : World) :
    Calls Tryd.prog 29 #[] w fun e w' => e = .returned (.agg #[.int .i64 11, .int .i64 52]) ∧ G w w' := by
  go_enter Tryd.func29, Tryd.ntmps29
  go_wp2

  go_returns
  exact ⟨rfl, (G.refl _).alloc _⟩

theorem infinite_c (E F : Nat) (w : World) (h1 : E ≤ 11) (h2 : F ≤ 52) :
    Calls Tryd.prog 52 #[.agg #[.int .i64 E, .int .i64 F]] w fun e w' => e = .returned (.int .u64 ((2 ^ E - 1) * 2 ^ F)) ∧ G w w' := by
  have hp := pow_bd h1
  have hq := pow_bd h2
  have hx : (0 : Int) ≤ (2 ^ E - 1) * 2 ^ F := Int.mul_nonneg (by omega) (by omega)
  have hy : ((2 : Int) ^ E - 1) * 2 ^ F ≤ 2047 * 2 ^ 52 := Int.mul_le_mul (by omega) (by omega) (by omega) (by omega)
  go_enter Tryd.func52, Tryd.ntmps52
  go_wp2_with fail
  go_region_with (go_at_call 30; refine (greatest_c E F _ h1).mono ?_; rintro e w1 ⟨rfl, hb1⟩; have hc1 := hb1.cell (p := ⟨w.heap.size, 1, none⟩) (v := .int .i64 F) (by simp) (by simp [go_sem]))
  all_goals
    go_wp2
    go_ret
    exact ⟨ret_int (by simp (disch := omega) only [IntWalk.u64_in]), G.trans ((G.refl _).alloc _).drew hb1⟩

end Go.Proofs.YthbjdmadbakchaaDoor
