/- What is proved here: a law of the walk: in a region that draws its order, loads are taken first where all ahead of the last writing call leave standing what they read.
What is proved here: a law of the walk: two operations that may come up, in a region whose loads were taken first. -/
import Derived.Test.YtkelfdhpekkiaacDoorC12
import Derived.Deep.RegionHeld
namespace Go.Proofs.YtkelfdhpekkiaacDoor

section
variable {P : Program} {ops : Array Oper} {md : Region.Mode} {S : World → Prop} {Q : Exit → Act → World → Prop}

/-- Operation np waits, by way of others, for all before it, and all behind it wait for it. -/
def chainedJ (md : Region.Mode) (ops : Array Oper) (np : Nat) : Bool :=
  (List.range np).all (fun i => (List.range (np + 1)).any fun k => decide (i < k) && waits md ops k i) &&
  (List.range ops.size).all (fun j => decide (j ≤ np) || (List.range j).any fun k => decide (np ≤ k) && waits md ops j k)
theorem np_unlistedJ {np : Nat} {listed : Array Bool} (hc : Closed md ops listed) (hch : chainedJ md ops np = true) : ∀ d i, np - i = d → i < np → listed.getD i false = false → listed.getD np false = false ∧ np ∉ Region.ready md ops listed := by
  intro d
  induction d using Nat.strongRecOn with
  | ind d ih =>
    intro i hd hi hu
    unfold chainedJ at hch
    simp only [Bool.and_eq_true, List.all_eq_true, List.mem_range] at hch
    have h1 := hch.1 i hi
    simp only [List.any_eq_true, List.mem_range, Bool.and_eq_true, decide_eq_true_eq] at h1
    obtain ⟨k, hk, hik, hw⟩ := h1
    have hku : listed.getD k false = false := by
      cases h : listed.getD k false with
      | false => rfl
      | true => rw [hc k i h hw] at hu; cases hu
    by_cases hkn : k = np
    · subst hkn
      exact ⟨hku, fun hr => by rw [ready_waits hr hw] at hu; cases hu⟩
    · exact ih (np - k) (by omega) k rfl (by omega) hku
theorem post_unlistedJ {np i : Nat} {listed : Array Bool} (hc : Closed md ops listed) (hch : chainedJ md ops np = true) (hi : i < np) (hu : listed.getD i false = false) :
    ∀ j, np ≤ j → listed.getD j false = false ∨ ops.size ≤ j := by
  intro j
  induction j using Nat.strongRecOn with
  | ind j ih =>
    intro hj
    by_cases hjn : j = np
    · subst hjn; exact Or.inl (np_unlistedJ hc hch _ i rfl hi hu).1
    · by_cases hs : ops.size ≤ j
      · exact Or.inr hs
      · have hch' := hch
        unfold chainedJ at hch'
        simp only [Bool.and_eq_true, List.all_eq_true, List.mem_range] at hch'
        have h1 := hch'.2 j (by omega)
        simp only [Bool.or_eq_true, decide_eq_true_eq, List.any_eq_true, List.mem_range, Bool.and_eq_true] at h1
        rcases h1 with h1 | ⟨k, hk, hnk, hw⟩
        · omega
        · rcases ih k hk hnk with h2 | h2
          · refine Or.inl ?_
            cases h : listed.getD j false with
            | false => rfl
            | true => rw [hc j k h hw] at h2; cases h2
          · omega
theorem ready_preJ {np i j : Nat} {listed : Array Bool} (hc : Closed md ops listed) (hch : chainedJ md ops np = true) (hi : i < np) (hu : listed.getD i false = false) (hj : j ∈ Region.ready md ops listed) : j < np := by
  rcases Nat.lt_or_ge j np with h | h
  · exact h
  · exfalso
    obtain ⟨-, o, ho, -⟩ := mem_ready.1 hj
    have hjs : j < ops.size := (Array.getElem?_eq_some_iff.1 ho).1
    by_cases hjn : j = np
    · subst hjn; exact (np_unlistedJ hc hch _ i rfl hi hu).2 hj
    · have hch' := hch
      unfold chainedJ at hch'
      simp only [Bool.and_eq_true, List.all_eq_true, List.mem_range] at hch'
      have h1 := hch'.2 j hjs
      simp only [Bool.or_eq_true, decide_eq_true_eq, List.any_eq_true, List.mem_range, Bool.and_eq_true] at h1
      rcases h1 with h1 | ⟨k, hk, hnk, hw⟩
      · omega
      · rcases post_unlistedJ hc hch hi hu k hnk with h2 | h2
        · rw [ready_waits hj hw] at h2; cases h2
        · omega


/-- Whatever order is picked from here on; S holds behind every operation ahead of np. -/
def wpAnyJ (P : Program) (md : Region.Mode) (ops : Array Oper) (Q : Exit → Act → World → Prop) (S : World → Prop) (np : Nat) : Nat → Array Bool → Act → World → Prop
  | 0, listed, a, w => Region.ready md ops listed = [] ∧ Q .normal a w
  | fuel + 1, listed, a, w =>
    (Region.ready md ops listed = [] → Q .normal a w) ∧
    ∀ i ∈ Region.ready md ops listed, wpOp P ops Q i (fun a' w' => (np ≤ i ∨ S w') ∧ wpAnyJ P md ops Q S np fuel (listed.setIfInBounds i true) a' w') a w

theorem wpAny_of_J {np : Nat} : ∀ (fuel : Nat) (listed : Array Bool) (a : Act) (w : World), wpAnyJ P md ops Q S np fuel listed a w → wpAny P md ops Q fuel listed a w
  | 0, _, _, _, h => h
  | fuel + 1, _, _, _, h => ⟨h.1, fun i hi => wpOp_mono (fun a' w' h' => wpAny_of_J fuel _ a' w' h'.2) (h.2 i hi)⟩

theorem wpAnyJ_first {np i : Nat} {oi : Oper} {v : Value} (hi : ops[i]? = some oi) (hsel : ∀ (j : Nat) (o : Oper) cs b, ops[j]? = some o → o.op ≠ .select cs b)
    (hQ : ∀ c a w, Q (.panic c) (a.put oi.dst v) w → Q (.panic c) a w) (hch : chainedJ md ops np = true) (hin : i < np) :
    ∀ (fuel : Nat) (listed : Array Bool) (a : Act) (w : World), Closed md ops listed →
      (∀ j oj, ops[j]? = some oj → j ≠ i → listed.getD j true = false → (∀ e ∈ oj.after, Region.binds md e = true → e.on ≠ i) → oi.apart ops oj = true) →
      i ∈ Region.ready md ops listed → YieldsIf P ops S oi v a → S w →
      wpAnyJ P md ops Q S np fuel (listed.setIfInBounds i true) (a.put oi.dst v) w → wpAnyJ P md ops Q S np (fuel + 1) listed a w := by
  intro fuel
  induction fuel with
  | zero =>
    intro listed a w _ _ hr hy hS H
    refine ⟨fun h => (by rw [h] at hr; cases hr), fun j hj => ?_⟩
    by_cases hji : j = i
    · subst hji; exact hy.wpOp hi hS ⟨Or.inr hS, H⟩
    · have := ready_mono hj hji
      rw [H.1] at this
      cases this
  | succ fuel ih =>
    intro listed a w hc hfree hr hy hS H
    refine ⟨fun h => (by rw [h] at hr; cases hr), fun j hj => ?_⟩
    by_cases hji : j = i
    · subst hji; exact hy.wpOp hi hS ⟨Or.inr hS, H⟩
    · have h1 := H.2 j (ready_mono hj hji)
      obtain ⟨hjun, oj, hoj, hall⟩ := mem_ready.1 hj
      have hjn := ready_preJ hc hch hin (getD_false_of_true (mem_ready.1 hr).1) hj
      have hnot : ∀ e ∈ oj.after, Region.binds md e = true → e.on ≠ i := fun e he hb heq => by
        have h1 := hall e he hb
        have h0 := (mem_ready.1 hr).1
        rw [heq] at h1
        rcases Nat.lt_or_ge i listed.size with h' | h'
        · simp [h'] at h0 h1; rw [h0] at h1; cases h1
        · simp [Array.getElem?_eq_none h'] at h1
      have h2 := wpOp_putIf hoj (hfree j oj hoj hji hjun hnot) (fun cs b => hsel i oi cs b hi) (fun cs b => hsel j oj cs b hoj) hQ hy h1
      have hfree' : ∀ k ok, ops[k]? = some ok → k ≠ i → (listed.setIfInBounds j true).getD k true = false →
          (∀ e ∈ ok.after, Region.binds md e = true → e.on ≠ i) → oi.apart ops ok = true := fun k ok hk hki hun hno => by
        refine hfree k ok hk hki ?_ hno
        by_cases hjk : j = k
        · subst hjk; exact hjun
        · rw [getD_set_ne true hjk] at hun; exact hun
      refine wpOp_mono (fun a' w' h3 => ?_) h2
      have hS' : S w' := h3.2.1.resolve_left (by omega)
      refine ⟨Or.inr hS', ih (listed.setIfInBounds j true) a' w' (hc.set hj) hfree' (ready_mono hr (Ne.symm hji)) h3.1 hS' ?_⟩
      rw [Array.setIfInBounds_comm _ _ hji]
      exact h3.2.2

/-- An operation that yields in every world that meets S is taken first. -/
theorem wpAnyJ_take {np i : Nat} {oi : Oper} {v : Value} {fuel : Nat} {listed : Array Bool} {a : Act} {w : World} (hi : ops.toList[i]? = some oi)
    (hs : Region.noSelect ops = true) (hf : Region.free md ops listed i = true) (hr : (Region.ready md ops listed).contains i = true)
    (hch : chainedJ md ops np = true) (hin : decide (i < np) = true) (hc : closedB md ops listed = true) (hw : waitsIn md ops = true)
    (hQ : ∀ c a w, Q (.panic c) (a.put oi.dst v) w → Q (.panic c) a w) (hy : YieldsIf P ops S oi v a) (hS : S w)
    (h : wpAnyJ P md ops Q S np fuel (listed.setIfInBounds i true) (a.put oi.dst v) w) : wpAnyJ P md ops Q S np (fuel + 1) listed a w :=
  have hi' : ops[i]? = some oi := by rw [← hi]; simp
  wpAnyJ_first hi' (Region.noSelect_spec hs) hQ hch (by simpa using hin) fuel listed a w (closed_of hc hw) (Region.free_spec hi' hf) (by simpa using hr) hy hS h

/-- The only operation that may come up. -/
theorem wpAnyJ_next {np i : Nat} {o : Oper} {fuel : Nat} {listed : Array Bool} {a : Act} {w : World} (hr : Region.ready md ops listed = [i]) (ho : ops.toList[i]? = some o)
    (h : ∀ K' : Act → World → Prop, Shut (∀ a w, (np ≤ i ∨ S w) → wpAnyJ P md ops Q S np fuel (listed.setIfInBounds i true) a w → K' a w) → if Region.wanted o (yielded ops a.tmps) = true then Oper.wp P o a w K' Q else K' (a.put o.dst undef) w) :
    wpAnyJ P md ops Q S np (fuel + 1) listed a w := by
  refine ⟨fun h0 => (by rw [hr] at h0; cases h0), fun j hj => ?_⟩
  rw [hr] at hj
  have e : j = i := by simpa using hj
  subst e
  have ho' : ops[j]? = some o := by rw [← ho]; simp
  exact wpOp_step ho' (fun K' hK => h K' (fun a w hS hW => hK a w ⟨hS, hW⟩))

/-- All have come up. -/
theorem wpAnyJ_done {np : Nat} {listed : Array Bool} {a : Act} {w : World} (hr : Region.ready md ops listed = []) (h : Q .normal a w) :
    ∀ fuel, wpAnyJ P md ops Q S np fuel listed a w
  | 0 => ⟨hr, h⟩
  | _ + 1 => ⟨fun _ => h, by rw [hr]; simp⟩
/-- From the last writing call on S is asked no more. -/
theorem region_J {id : Nat} {a : Act} {w : World} (np : Nat) (S : World → Prop) (hm : P.follows .mixedOrders = true) (hS : S w.drew)
    (h : S w.drew → wpAnyJ P .any ops Q S np ops.size (Array.replicate ops.size false) a w.drew) : (Code.region id ops true).wp P Q a w :=
  wp_region_any hm (wpAny_of_J _ _ _ _ (h hS))
end

end Go.Proofs.YtkelfdhpekkiaacDoor
namespace Go.Proofs.YtkelfdhpekkiaacDoor
open Go.RowKit

/-- What several ways come to is proved once: its words are taken off the first way that reaches it. -/
def Later (T : Prop) : Prop := ∃ _ : True, T
theorem Later.out {T : Prop} (h : Later T) : T := h.elim fun _ x => x
theorem Later.mk {T : Prop} (h : T) : Later T := ⟨trivial, h⟩
theorem share {T X : Prop} (main : Later T → X) (proof : Later T) : X := main proof

section
variable {P : Program} {ops : Array Oper} {md : Region.Mode} {S : World → Prop} {Q : Exit → Act → World → Prop}

/-- Two may come up. -/
theorem wpAnyJ_two {np i j : Nat} {o p : Oper} {fuel : Nat} {listed : Array Bool} {a : Act} {w : World} (hr : Region.ready md ops listed = [i, j]) (ho : ops.toList[i]? = some o) (hp : ops.toList[j]? = some p)
    (h1 : ∀ K' : Act → World → Prop, Shut (∀ a w, (np ≤ i ∨ S w) → wpAnyJ P md ops Q S np fuel (listed.setIfInBounds i true) a w → K' a w) → if Region.wanted o (yielded ops a.tmps) = true then Oper.wp P o a w K' Q else K' (a.put o.dst undef) w)
    (h2 : ∀ K' : Act → World → Prop, Shut (∀ a w, (np ≤ j ∨ S w) → wpAnyJ P md ops Q S np fuel (listed.setIfInBounds j true) a w → K' a w) → if Region.wanted p (yielded ops a.tmps) = true then Oper.wp P p a w K' Q else K' (a.put p.dst undef) w) :
    wpAnyJ P md ops Q S np (fuel + 1) listed a w := by
  refine ⟨fun h0 => (by rw [hr] at h0; cases h0), fun k hk => ?_⟩
  rw [hr] at hk
  have e : k = i ∨ k = j := by simpa using hk
  rcases e with e | e
  · subst e
    have ho' : ops[k]? = some o := by rw [← ho]; simp
    exact wpOp_step ho' (fun K' hK => h1 K' (fun a w hS hW => hK a w ⟨hS, hW⟩))
  · subst e
    have hp' : ops[k]? = some p := by rw [← hp]; simp
    exact wpOp_step hp' (fun K' hK => h2 K' (fun a w hS hW => hK a w ⟨hS, hW⟩))
/-- Three may come up. -/
theorem wpAnyJ_three {np i j l : Nat} {o p q : Oper} {fuel : Nat} {listed : Array Bool} {a : Act} {w : World} (hr : Region.ready md ops listed = [i, j, l]) (ho : ops.toList[i]? = some o) (hp : ops.toList[j]? = some p) (hq : ops.toList[l]? = some q)
    (h1 : ∀ K' : Act → World → Prop, Shut (∀ a w, (np ≤ i ∨ S w) → wpAnyJ P md ops Q S np fuel (listed.setIfInBounds i true) a w → K' a w) → if Region.wanted o (yielded ops a.tmps) = true then Oper.wp P o a w K' Q else K' (a.put o.dst undef) w)
    (h2 : ∀ K' : Act → World → Prop, Shut (∀ a w, (np ≤ j ∨ S w) → wpAnyJ P md ops Q S np fuel (listed.setIfInBounds j true) a w → K' a w) → if Region.wanted p (yielded ops a.tmps) = true then Oper.wp P p a w K' Q else K' (a.put p.dst undef) w)
    (h3 : ∀ K' : Act → World → Prop, Shut (∀ a w, (np ≤ l ∨ S w) → wpAnyJ P md ops Q S np fuel (listed.setIfInBounds l true) a w → K' a w) → if Region.wanted q (yielded ops a.tmps) = true then Oper.wp P q a w K' Q else K' (a.put q.dst undef) w) :
    wpAnyJ P md ops Q S np (fuel + 1) listed a w := by
  refine ⟨fun h0 => (by rw [hr] at h0; cases h0), fun k hk => ?_⟩
  rw [hr] at hk
  have e : k = i ∨ k = j ∨ k = l := by simpa using hk
  rcases e with e | e | e
  · subst e
    have ho' : ops[k]? = some o := by rw [← ho]; simp
    exact wpOp_step ho' (fun K' hK => h1 K' (fun a w hS hW => hK a w ⟨hS, hW⟩))
  · subst e
    have hp' : ops[k]? = some p := by rw [← hp]; simp
    exact wpOp_step hp' (fun K' hK => h2 K' (fun a w hS hW => hK a w ⟨hS, hW⟩))
  · subst e
    have hq' : ops[k]? = some q := by rw [← hq]; simp
    exact wpOp_step hq' (fun K' hK => h3 K' (fun a w hS hW => hK a w ⟨hS, hW⟩))
/-- Which have come up, written another way. -/
theorem wpAnyJ_listed {np fuel : Nat} {l l' : Array Bool} {a : Act} {w : World} (h : l = l') (H : wpAnyJ P md ops Q S np fuel l' a w) : wpAnyJ P md ops Q S np fuel l a w := by rw [h]; exact H
/-- Four may come up. -/
theorem wpAnyJ_four {np i j l m : Nat} {o p q r : Oper} {fuel : Nat} {listed : Array Bool} {a : Act} {w : World} (hr : Region.ready md ops listed = [i, j, l, m]) (ho : ops.toList[i]? = some o) (hp : ops.toList[j]? = some p) (hq : ops.toList[l]? = some q) (hs : ops.toList[m]? = some r)
    (h1 : ∀ K' : Act → World → Prop, Shut (∀ a w, (np ≤ i ∨ S w) → wpAnyJ P md ops Q S np fuel (listed.setIfInBounds i true) a w → K' a w) → if Region.wanted o (yielded ops a.tmps) = true then Oper.wp P o a w K' Q else K' (a.put o.dst undef) w)
    (h2 : ∀ K' : Act → World → Prop, Shut (∀ a w, (np ≤ j ∨ S w) → wpAnyJ P md ops Q S np fuel (listed.setIfInBounds j true) a w → K' a w) → if Region.wanted p (yielded ops a.tmps) = true then Oper.wp P p a w K' Q else K' (a.put p.dst undef) w)
    (h3 : ∀ K' : Act → World → Prop, Shut (∀ a w, (np ≤ l ∨ S w) → wpAnyJ P md ops Q S np fuel (listed.setIfInBounds l true) a w → K' a w) → if Region.wanted q (yielded ops a.tmps) = true then Oper.wp P q a w K' Q else K' (a.put q.dst undef) w)
    (h4 : ∀ K' : Act → World → Prop, Shut (∀ a w, (np ≤ m ∨ S w) → wpAnyJ P md ops Q S np fuel (listed.setIfInBounds m true) a w → K' a w) → if Region.wanted r (yielded ops a.tmps) = true then Oper.wp P r a w K' Q else K' (a.put r.dst undef) w) :
    wpAnyJ P md ops Q S np (fuel + 1) listed a w := by
  refine ⟨fun h0 => (by rw [hr] at h0; cases h0), fun k hk => ?_⟩
  rw [hr] at hk
  have e : k = i ∨ k = j ∨ k = l ∨ k = m := by simpa using hk
  rcases e with e | e | e | e
  · subst e
    have ho' : ops[k]? = some o := by rw [← ho]; simp
    exact wpOp_step ho' (fun K' hK => h1 K' (fun a w hS hW => hK a w ⟨hS, hW⟩))
  · subst e
    have hp' : ops[k]? = some p := by rw [← hp]; simp
    exact wpOp_step hp' (fun K' hK => h2 K' (fun a w hS hW => hK a w ⟨hS, hW⟩))
  · subst e
    have hq' : ops[k]? = some q := by rw [← hq]; simp
    exact wpOp_step hq' (fun K' hK => h3 K' (fun a w hS hW => hK a w ⟨hS, hW⟩))
  · subst e
    have hs' : ops[k]? = some r := by rw [← hs]; simp
    exact wpOp_step hs' (fun K' hK => h4 K' (fun a w hS hW => hK a w ⟨hS, hW⟩))
end

end Go.Proofs.YtkelfdhpekkiaacDoor
