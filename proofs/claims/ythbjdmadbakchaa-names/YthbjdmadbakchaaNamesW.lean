/- What is proved: the law Names returns true at its one input (it has no argument), and leaves the world with new blocks alone. No condition. This text: the walks. -/
import Derived.Test.YthbjdmadbakchaaRows
import Derived.WalkKit
import Derived.ProofKit
import Derived.OpenShut
import Derived.WalkLawsBesides
import Derived.Handy
import Derived.Deep.QuietTactic
import Derived.BigQuiet
namespace Go.Proofs.Ythbjdmadbakchaa.names
open Go.ChangeShapes Go.WideShapes Go.ChangeAt Go.RowKit

theorem grown_drewN {W w' : World} (h : Grown W w') (n : Nat) : Grown W (w'.drewN n) := h

theorem ints_calls (a b : Int) (w : World) :
    Calls Try.prog 6 #[.int .i64 a, .int .i64 b] w fun e w' => e = .returned (.bool (a == b)) ∧ w' = w := by
  go_enter Try.func6, Try.ntmps6
  go_wp2
  go_ret
  exact ⟨rfl, rfl⟩

theorem ints_quiet (a : Int) (w : World) (q m : Nat) :
    Calls Try.prog 6 #[.int .i64 a, .int .i64 a] (w.drewN (q + m)) fun e w' => e = .returned (.bool true) ∧ ∃ n, w' = w.drewN (q + n) :=
  (ints_calls a a _).mono (by rintro e w' ⟨rfl, rfl⟩; exact ⟨by simp, m, rfl⟩)

set_option maxHeartbeats 1000000 in
theorem lists_calls (w : World) (ba bb n : Nat) (l : Nat → Int) (hn : n ≤ 100)
    (ha : ∀ i, i < n → w.cell? ⟨ba, i, none⟩ = some (.int .i64 (l i)))
    (hb : ∀ i, i < n → w.cell? ⟨bb, i, none⟩ = some (.int .i64 (l i))) :
    Calls Try.prog 5 #[.slice (some ⟨ba, 0, none⟩) n n, .slice (some ⟨bb, 0, none⟩) n n, .func (.func 6) #[] #[]] w fun e w' => e = .returned (.bool true) ∧ ∃ q, w' = w.drewN q := by
  go_enter Try.func5, Try.ntmps5
  go_wp2
  go_loopw [15] (fun k wr => ∃ i q : Nat, i ≤ n ∧ k = .int .i64 i ∧ wr = w.drewN q) (fun k _ => n - (intOf k).toNat)
  case atStart => exact ⟨0, 0, Nat.zero_le _, rfl, rfl⟩
  case round =>
    obtain ⟨k, q, hk, rfl, rfl⟩ := hrel
    by_cases hlt : k < n
    · have ha' := ha k hlt
      have hb' := hb k hlt
      clear ha hb
      go_wp2_with fail
      go_quiet ((go_at_call 6; exact ints_quiet _ _ _ _))
      go_wp2
      go_roundw
      case rel => exact ⟨k + 1, _, by omega, by go_num, rfl⟩
      case measure => simp [intOf]; omega
    · have hkn : ¬ k < n := hlt
      clear ha hb
      go_wp2
      go_ret
      exact ⟨rfl, q, rfl⟩

set_option maxHeartbeats 1000000 in
theorem walk  (w : World) :
    Calls Try.prog 3 #[] w fun e w' => e = .returned (.bool true) ∧ Grown w w' := by
  go_enter Try.func3, Try.ntmps3
  go_wp2
  refine wp_loop_rounds 11 ?_
  iterate 10 (rw [rounds_succ]; go_wp2_with fail)
  rw [rounds_succ]; go_wp2_with fail
  refine (lists_calls _ _ _ 12 (fun i => [2000, 2000, 5000, 1200, 12, 6, 60, 4, 400, 64, 60, 20000].getD i 0) (by omega) (fun i hi => ?_) (fun i hi => ?_)).mono ?_
  · have h : i = 0 ∨ i = 1 ∨ i = 2 ∨ i = 3 ∨ i = 4 ∨ i = 5 ∨ i = 6 ∨ i = 7 ∨ i = 8 ∨ i = 9 ∨ i = 10 ∨ i = 11 := by omega
    rcases h with rfl | rfl | rfl | rfl | rfl | rfl | rfl | rfl | rfl | rfl | rfl | rfl <;> go_cell
  · have h : i = 0 ∨ i = 1 ∨ i = 2 ∨ i = 3 ∨ i = 4 ∨ i = 5 ∨ i = 6 ∨ i = 7 ∨ i = 8 ∨ i = 9 ∨ i = 10 ∨ i = 11 := by omega
    rcases h with rfl | rfl | rfl | rfl | rfl | rfl | rfl | rfl | rfl | rfl | rfl | rfl <;> go_cell
  rintro e w1 ⟨rfl, q1, rfl⟩
  go_wp2_with fail
  refine (lists_calls _ _ _ 9 (fun i => [1, 2, 3, 4, 1, 2, 3, 4, 5].getD i 0) (by omega) (fun i hi => ?_) (fun i hi => ?_)).mono ?_
  · have h : i = 0 ∨ i = 1 ∨ i = 2 ∨ i = 3 ∨ i = 4 ∨ i = 5 ∨ i = 6 ∨ i = 7 ∨ i = 8 := by omega
    rcases h with rfl | rfl | rfl | rfl | rfl | rfl | rfl | rfl | rfl <;> go_cell
  · have h : i = 0 ∨ i = 1 ∨ i = 2 ∨ i = 3 ∨ i = 4 ∨ i = 5 ∨ i = 6 ∨ i = 7 ∨ i = 8 := by omega
    rcases h with rfl | rfl | rfl | rfl | rfl | rfl | rfl | rfl | rfl <;> go_cell
  rintro e w2 ⟨rfl, q2, rfl⟩
  go_wp2_with fail
  go_ret
  exact ⟨rfl, grown_drewN (Grown.alloc (Grown.alloc (grown_drewN (Grown.alloc (Grown.alloc (Grown.alloc (Grown.refl _) _ _) _ _) _ _) _) _ _) _ _) _⟩
end Go.Proofs.Ythbjdmadbakchaa.names
