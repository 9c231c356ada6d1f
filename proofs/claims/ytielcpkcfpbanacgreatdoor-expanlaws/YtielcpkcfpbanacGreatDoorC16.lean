/- What is proved here: a law of the walk: in a region that draws its order, operations that are quiet and for which all the rest waits are walked first. -/
import Derived.Test.YtielcpkcfpbanacGreatDoorC2
import Derived.RegionTactic
namespace Go.Proofs.YtielcpkcfpbanacGreatDoor

section
variable {P : Program} {ops : Array Oper} {md : Region.Mode} {C : World → Prop} {Q : Exit → Act → World → Prop}

/-- Operation j waits for k. -/
def waits (md : Region.Mode) (ops : Array Oper) (j k : Nat) : Bool := match ops[j]? with
  | some o => o.after.any fun e => Region.binds md e && e.on == k
  | none => false
def Closed (md : Region.Mode) (ops : Array Oper) (listed : Array Bool) : Prop := ∀ j k, listed.getD j false = true → waits md ops j k = true → listed.getD k false = true

theorem ready_waits {j k : Nat} {listed : Array Bool} (hj : j ∈ Region.ready md ops listed) (hw : waits md ops j k = true) : listed.getD k false = true := by
  obtain ⟨-, o, ho, hall⟩ := mem_ready.1 hj
  unfold waits at hw
  rw [ho] at hw
  simp only [Array.any_eq_true, Bool.and_eq_true, beq_iff_eq] at hw
  obtain ⟨i, hi, hb, rfl⟩ := hw
  exact hall _ (Array.getElem_mem hi) hb
theorem getD_false_of_true {l : Array Bool} {i : Nat} (h : l.getD i true = false) : l.getD i false = false := by
  rcases Nat.lt_or_ge i l.size with h' | h'
  · simp [h'] at h ⊢; exact h
  · simp [Array.getElem?_eq_none h'] at h
theorem Closed.set {listed : Array Bool} {j : Nat} (hc : Closed md ops listed) (hj : j ∈ Region.ready md ops listed) : Closed md ops (listed.setIfInBounds j true) := by
  intro i k h hw
  refine getD_set_true ?_
  by_cases hij : j = i
  · subst hij; exact ready_waits hj hw
  · rw [getD_set_ne false hij] at h
    exact hc i k h hw
def closedB (md : Region.Mode) (ops : Array Oper) (listed : Array Bool) : Bool :=
  (List.range listed.size).all fun j => !listed.getD j false || (List.range (ops.size + j)).all fun k => !waits md ops j k || listed.getD k false
/-- What no operation waits for beyond the region. -/
def waitsIn (md : Region.Mode) (ops : Array Oper) : Bool := ops.all fun o => o.after.all fun e => !Region.binds md e || decide (e.on < ops.size)
theorem closed_of {listed : Array Bool} (h : closedB md ops listed = true) (hw : waitsIn md ops = true) : Closed md ops listed := by
  intro j k hj hk
  unfold closedB at h
  simp only [List.all_eq_true, List.mem_range, Bool.or_eq_true, Bool.not_eq_true'] at h
  have hjs : j < listed.size := by
    rcases Nat.lt_or_ge j listed.size with h' | h'
    · exact h'
    · simp [Array.getElem?_eq_none h'] at hj
  rcases h j hjs with h1 | h1
  · rw [hj] at h1; cases h1
  · have hks : k < ops.size := by
      have hk' := hk
      unfold waits at hk'
      split at hk'
      · rename_i o ho
        simp only [Array.any_eq_true, Bool.and_eq_true, beq_iff_eq] at hk'
        obtain ⟨i, hi, hb, he⟩ := hk'
        unfold waitsIn at hw
        simp only [Array.all_eq_true_iff_forall_mem, Bool.or_eq_true, Bool.not_eq_true', decide_eq_true_eq] at hw
        rcases hw o (Array.mem_of_getElem? ho) _ (Array.getElem_mem hi) with h2 | h2
        · rw [hb] at h2; cases h2
        · omega
      · cases hk'
    rcases h1 k (by omega) with h2 | h2
    · rw [hk] at h2; cases h2
    · exact h2

theorem wpAny_takeL {i : Nat} {oi : Oper} {v : Value} {fuel : Nat} {listed : Array Bool} {a : Act} {w : World} (hi : ops.toList[i]? = some oi)
    (hs : Region.noSelect ops = true) (hf : Region.free md ops listed i = true) (hr : (Region.ready md ops listed).contains i = true)
    (hQ : ∀ c a w, Q (.panic c) (a.put oi.dst v) w → Q (.panic c) a w) (hy : Yields P ops oi v a)
    (h : wpAny P md ops Q fuel (listed.setIfInBounds i true) (a.put oi.dst v) w) : wpAny P md ops Q (fuel + 1) listed a w :=
  wpAny_take (by rw [← hi]; simp) hs hf hr hQ hy h
end

end Go.Proofs.YtielcpkcfpbanacGreatDoor
