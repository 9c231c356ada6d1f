/- What is proved here: a law of the walk: in a region that draws its order, operations that are quiet and for which all the rest waits are walked first. -/
import Derived.Test.YtahfkkkfpcdjaabGreatDoorC2
import Derived.RegionTactic
namespace Go.Proofs.YtahfkkkfpcdjaabGreatDoor

section
variable {P : Program} {ops : Array Oper} {md : Region.Mode} {C : World → Prop} {Q : Exit → Act → World → Prop}

/-- Operation j waits for k. -/
def waits (md : Region.Mode) (ops : Array Oper) (j k : Nat) : Bool := match ops[j]? with
  | some o => o.after.any fun e => Region.binds md e && e.on == k
  | none => false
/-- Of the operations pl, each is waited for, by way of others of them, by np; what else is not in l0 waits, by way of others, for np. -/
def chained (md : Region.Mode) (ops : Array Oper) (l0 : Array Bool) (pl : List Nat) (np : Nat) : Bool :=
  pl.all (fun i => decide (i < np) && (List.range (np + 1)).any fun k => decide (i < k) && waits md ops k i && (k == np || pl.contains k)) && !l0.getD np false &&
  (List.range ops.size).all (fun j => l0.getD j false || pl.contains j || j == np || (decide (np < j) && (List.range j).any fun k => decide (np ≤ k) && !l0.getD k false && waits md ops j k))
def Closed (md : Region.Mode) (ops : Array Oper) (listed : Array Bool) : Prop := ∀ j k, listed.getD j false = true → waits md ops j k = true → listed.getD k false = true

theorem ready_waits {j k : Nat} {listed : Array Bool} (hj : j ∈ Region.ready md ops listed) (hw : waits md ops j k = true) : listed.getD k false = true := by
  obtain ⟨-, o, ho, hall⟩ := mem_ready.1 hj
  unfold waits at hw
  rw [ho] at hw
  simp only [Array.any_eq_true, Bool.and_eq_true, beq_iff_eq] at hw
  obtain ⟨i, hi, hb, rfl⟩ := hw
  exact hall _ (Array.getElem_mem hi) hb
theorem getD_false_of_true {l : Array Bool} {i : Nat} (h : l.getD i true = false) : l.getD i false = false := by
  rcases Nat.lt_or_ge i l.size with h' | h'
  · simp [h'] at h ⊢; exact h
  · simp [Array.getElem?_eq_none h'] at h
theorem Closed.set {listed : Array Bool} {j : Nat} (hc : Closed md ops listed) (hj : j ∈ Region.ready md ops listed) : Closed md ops (listed.setIfInBounds j true) := by
  intro i k h hw
  refine getD_set_true ?_
  by_cases hij : j = i
  · subst hij; exact ready_waits hj hw
  · rw [getD_set_ne false hij] at h
    exact hc i k h hw
theorem pl_lt {l0 : Array Bool} {pl : List Nat} {np i : Nat} (hch : chained md ops l0 pl np = true) (hi : i ∈ pl) : i < np := by
  unfold chained at hch
  simp only [Bool.and_eq_true, List.all_eq_true, decide_eq_true_eq] at hch
  exact (hch.1.1 i hi).1
theorem np_unlisted {l0 : Array Bool} {pl : List Nat} {np : Nat} {listed : Array Bool} (hc : Closed md ops listed) (hch : chained md ops l0 pl np = true) : ∀ d i, np - i = d → i ∈ pl → listed.getD i false = false → listed.getD np false = false ∧ np ∉ Region.ready md ops listed := by
  intro d
  induction d using Nat.strongRecOn with
  | ind d ih =>
    intro i hd hi hu
    have hin := pl_lt hch hi
    have hch' := hch
    unfold chained at hch'
    simp only [Bool.and_eq_true, List.all_eq_true] at hch'
    have h1 := (hch'.1.1 i hi).2
    simp only [List.any_eq_true, List.mem_range, Bool.and_eq_true, decide_eq_true_eq, Bool.or_eq_true, beq_iff_eq, List.contains_iff_mem] at h1
    obtain ⟨k, hk, ⟨hik, hw⟩, hor⟩ := h1
    have hku : listed.getD k false = false := by
      cases h : listed.getD k false with
      | false => rfl
      | true => rw [hc k i h hw] at hu; cases hu
    by_cases hkn : k = np
    · subst hkn
      exact ⟨hku, fun hr => by rw [ready_waits hr hw] at hu; cases hu⟩
    · exact ih (np - k) (by omega) k rfl (hor.resolve_left hkn) hku
theorem post_unlisted {l0 : Array Bool} {pl : List Nat} {np i : Nat} {listed : Array Bool} (hc : Closed md ops listed) (hch : chained md ops l0 pl np = true) (hi : i ∈ pl) (hu : listed.getD i false = false) :
    ∀ j, np ≤ j → l0.getD j false = false → listed.getD j false = false ∨ ops.size ≤ j := by
  intro j
  induction j using Nat.strongRecOn with
  | ind j ih =>
    intro hj hj0
    by_cases hjn : j = np
    · subst hjn; exact Or.inl (np_unlisted hc hch _ i rfl hi hu).1
    · by_cases hs : ops.size ≤ j
      · exact Or.inr hs
      · have hch' := hch
        unfold chained at hch'
        simp only [Bool.and_eq_true, List.all_eq_true, List.mem_range] at hch'
        have h1 := hch'.2 j (by omega)
        simp only [hj0, Bool.or_eq_true, Bool.false_eq_true, false_or, List.contains_iff_mem, beq_iff_eq, hjn, or_false, Bool.and_eq_true, decide_eq_true_eq, List.any_eq_true, List.mem_range, Bool.not_eq_true'] at h1
        rcases h1 with h1 | ⟨-, k, hk, ⟨hnk, hk0⟩, hw⟩
        · exact absurd (pl_lt hch h1) (by omega)
        · rcases ih k hk hnk hk0 with h2 | h2
          · refine Or.inl ?_
            cases h : listed.getD j false with
            | false => rfl
            | true => rw [hc j k h hw] at h2; cases h2
          · omega
theorem ready_pre {l0 : Array Bool} {pl : List Nat} {np i j : Nat} {listed : Array Bool} (hc : Closed md ops listed) (hl0 : ∀ k, l0.getD k false = true → listed.getD k false = true) (hch : chained md ops l0 pl np = true) (hi : i ∈ pl) (hu : listed.getD i false = false) (hj : j ∈ Region.ready md ops listed) : j ∈ pl := by
  have hju := getD_false_of_true (mem_ready.1 hj).1
  have hj0 : l0.getD j false = false := by
    cases h : l0.getD j false with
    | false => rfl
    | true => rw [hl0 j h] at hju; cases hju
  obtain ⟨-, o, ho, -⟩ := mem_ready.1 hj
  have hjs : j < ops.size := (Array.getElem?_eq_some_iff.1 ho).1
  have hch' := hch
  unfold chained at hch'
  simp only [Bool.and_eq_true, List.all_eq_true, List.mem_range] at hch'
  have h1 := hch'.2 j hjs
  simp only [hj0, Bool.or_eq_true, Bool.false_eq_true, false_or, List.contains_iff_mem, beq_iff_eq, Bool.and_eq_true, decide_eq_true_eq, List.any_eq_true, List.mem_range, Bool.not_eq_true'] at h1
  rcases h1 with (h1 | h1) | ⟨-, k, hk, ⟨hnk, hk0⟩, hw⟩
  · exact h1
  · subst h1; exact absurd hj (np_unlisted hc hch _ i rfl hi hu).2
  · exfalso
    rcases post_unlisted hc hch hi hu k hnk hk0 with h2 | h2
    · rw [ready_waits hj hw] at h2; cases h2
    · omega

def closedB (md : Region.Mode) (ops : Array Oper) (listed : Array Bool) : Bool :=
  (List.range listed.size).all fun j => !listed.getD j false || (List.range (ops.size + j)).all fun k => !waits md ops j k || listed.getD k false
/-- What no operation waits for beyond the region. -/
def waitsIn (md : Region.Mode) (ops : Array Oper) : Bool := ops.all fun o => o.after.all fun e => !Region.binds md e || decide (e.on < ops.size)
theorem closed_of {listed : Array Bool} (h : closedB md ops listed = true) (hw : waitsIn md ops = true) : Closed md ops listed := by
  intro j k hj hk
  unfold closedB at h
  simp only [List.all_eq_true, List.mem_range, Bool.or_eq_true, Bool.not_eq_true'] at h
  have hjs : j < listed.size := by
    rcases Nat.lt_or_ge j listed.size with h' | h'
    · exact h'
    · simp [Array.getElem?_eq_none h'] at hj
  rcases h j hjs with h1 | h1
  · rw [hj] at h1; cases h1
  · have hks : k < ops.size := by
      have hk' := hk
      unfold waits at hk'
      split at hk'
      · rename_i o ho
        simp only [Array.any_eq_true, Bool.and_eq_true, beq_iff_eq] at hk'
        obtain ⟨i, hi, hb, he⟩ := hk'
        unfold waitsIn at hw
        simp only [Array.all_eq_true_iff_forall_mem, Bool.or_eq_true, Bool.not_eq_true', decide_eq_true_eq] at hw
        rcases hw o (Array.mem_of_getElem? ho) _ (Array.getElem_mem hi) with h2 | h2
        · rw [hb] at h2; cases h2
        · omega
      · cases hk'
    rcases h1 k (by omega) with h2 | h2
    · rw [hk] at h2; cases h2
    · exact h2

theorem wpAny_takeL {i : Nat} {oi : Oper} {v : Value} {fuel : Nat} {listed : Array Bool} {a : Act} {w : World} (hi : ops.toList[i]? = some oi)
    (hs : Region.noSelect ops = true) (hf : Region.free md ops listed i = true) (hr : (Region.ready md ops listed).contains i = true)
    (hQ : ∀ c a w, Q (.panic c) (a.put oi.dst v) w → Q (.panic c) a w) (hy : Yields P ops oi v a)
    (h : wpAny P md ops Q fuel (listed.setIfInBounds i true) (a.put oi.dst v) w) : wpAny P md ops Q (fuel + 1) listed a w :=
  wpAny_take (by rw [← hi]; simp) hs hf hr hQ hy h
end

end Go.Proofs.YtahfkkkfpcdjaabGreatDoor
