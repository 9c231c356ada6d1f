/- What is proved here: a law of the walk: in a region that draws its order, operations that are quiet and for which all the rest waits are walked first. -/
import Derived.Test.YtfnkkkcojnffdaaGreatDoorC1
import Derived.Test.YtfnkkkcojnffdaaGreatDoorC3
import Derived.RegionTactic
namespace Go.Proofs.YtfnkkkcojnffdaaGreatDoor
section
variable {P:Program} {ops:Array Oper} {md:Region.Mode} {C:World→Prop} {Q:Exit→Act→World→Prop}
/-- Operation j waits for k. -/
def waits (md:Region.Mode) (ops:Array Oper) (j k:Nat):Bool:=match ops[j]? with
 |some o=>o.after.any fun e=>Region.binds md e&&e.on==k
 |none=>false
def Closed (md:Region.Mode) (ops:Array Oper) (listed:Array Bool):Prop:=∀ j k,listed.getD j false=true→waits md ops j k=true→listed.getD k false=true
theorem eG {j k:Nat} {listed:Array Bool} (D:j∈Region.ready md ops listed) (B:waits md ops j k=true):listed.getD k false=true:=by
 obtain⟨-,o,E,A⟩:=mem_ready.1 D;unfold waits at B;rw[E] at B;simp only[Array.any_eq_true,br,beq_iff_eq] at B;obtain⟨i,hi,hb,rfl⟩:=B;exact A _ (Array.getElem_mem hi) hb
theorem eL {l:Array Bool} {i:Nat} (h:l.getD i true=false):l.getD i false=false:=by
 rcases bg i l.size with A|A
 ·simp [A] at h ⊢;exact h
 ·simp [Array.getElem?_eq_none A] at h
theorem Closed.set {listed:Array Bool} {j:Nat} (D:Closed md ops listed) (E:j∈Region.ready md ops listed):Closed md ops (listed.setIfInBounds j true):=by
 intro i k h B;refine getD_set_true ?_;by_cases A:j=i
 ·subst A;exact eG E B
 ·rw[getD_set_ne false A] at h;exact D i k h B
def ja (md:Region.Mode) (ops:Array Oper) (listed:Array Bool):Bool:=
 (List.range listed.size).all fun j=> !listed.getD j false||(List.range (ops.size+j)).all fun k=> !waits md ops j k||listed.getD k false
/-- What no operation waits for beyond the region. -/
def jg (md:Region.Mode) (ops:Array Oper):Bool:=ops.all fun o=>o.after.all fun e=> !Region.binds md e||decide (e.on<ops.size)
theorem oh {listed:Array Bool} (h:ja md ops listed=true) (E:jg md ops=true):Closed md ops listed:=by
 intro j k F I;unfold ja at h;simp only[b9,aO,cw,Bool.not_eq_true'] at h;have D:j<listed.size:=by
  rcases bg j listed.size with B|B
  ·exact B
  ·simp [Array.getElem?_eq_none B] at F
 rcases h j D with h1|h1
 ·rw[F] at h1;cases h1
 ·have J:k<ops.size:=by
   have A:=I;unfold waits at A;split at A
   ·rename_i o K
    simp only[Array.any_eq_true,br,beq_iff_eq] at A;obtain⟨i,hi,hb,L⟩:=A;unfold jg at E;simp only[dy,cw,Bool.not_eq_true',decide_eq_true_eq] at E;rcases E o (Array.mem_of_getElem? K) _ (Array.getElem_mem hi) with h2|h2
    ·rw[hb] at h2;cases h2
    ·omega
   ·cases A
  rcases h1 k dT with h2|h2
  ·rw[I] at h2;cases h2
  ·exact h2
theorem eB {i:Nat} {B:Oper} {v:Value} {A:Nat} {listed:Array Bool} {a:Act} {w:World} (hi:ops.toList[i]? =some B)
  (I:Region.noSelect ops=true) (E:Region.free md ops listed i=true) (F:(Region.ready md ops listed).contains i=true)
  (D:∀ c a w,Q (.panic c) (a.put B.dst v) w→Q (.panic c) a w) (J:Yields P ops B v a)
  (h:wpAny P md ops Q A (listed.setIfInBounds i true) (a.put B.dst v) w):wpAny P md ops Q (A+1) listed a w:=
 wpAny_take (by rw[← hi];simp) I E F D J h
end
end Go.Proofs.YtfnkkkcojnffdaaGreatDoor
