/- What is proved here: a law of the walk: in a region that draws its order, operations that are quiet and for which all the rest waits are walked first. -/
import Derived.Test.YtfnkkkcojnffdaaGreatDoorQ1
import Derived.Test.YtfnkkkcojnffdaaGreatDoorQ3
import Derived.RegionTactic
namespace Go.Proofs.YtfnkkkcojnffdaaGreatDoor
section
variable {P:Program} {ops:Array Oper} {md:Region.Mode} {C:World→Prop} {Q:Exit→Act→World→Prop}
/-- Operation j waits for k. -/
def waits (md:Region.Mode) (ops:Array Oper) (j k:Nat):Bool:=match ops[j]? with
 |some o=>o.after.any fun e=>Region.binds md e&&e.on==k
 |none=>false
/-- Of the operations pl, each is waited for, by way of others of them, by np; what else is not in l0 waits, by way of others, for np. -/
def chained (md:Region.Mode) (ops:Array Oper) (A:Array Bool) (pl:List Nat) (np:Nat):Bool:=
 pl.all (fun i=>decide (i<np)&&(List.range (np+1)).any fun k=>decide (i<k)&&waits md ops k i&&(k==np||pl.contains k))&& !A.getD np false&&
 (List.range ops.size).all (fun j=>A.getD j false||pl.contains j||j==np||(decide (np<j)&&(List.range j).any fun k=>decide (np≤k)&& !A.getD k false&&waits md ops j k))
def Closed (md:Region.Mode) (ops:Array Oper) (listed:Array Bool):Prop:=∀ j k,listed.getD j false=true→waits md ops j k=true→listed.getD k false=true
theorem fu {j k:Nat} {listed:Array Bool} (D:j∈Region.ready md ops listed) (B:waits md ops j k=true):listed.getD k false=true:=by
 obtain⟨-,o,E,A⟩:=mem_ready.1 D;unfold waits at B;rw[E] at B;simp only[Array.any_eq_true,aW,beq_iff_eq] at B;obtain⟨i,hi,hb,rfl⟩:=B;exact A _ (Array.getElem_mem hi) hb
theorem fk {l:Array Bool} {i:Nat} (h:l.getD i true=false):l.getD i false=false:=by
 rcases br i l.size with A|A
 ·simp [A] at h ⊢;exact h
 ·simp [Array.getElem?_eq_none A] at h
theorem Closed.set {listed:Array Bool} {j:Nat} (D:Closed md ops listed) (E:j∈Region.ready md ops listed):Closed md ops (listed.setIfInBounds j true):=by
 intro i k h B;refine getD_set_true ?_;by_cases A:j=i
 ·subst A;exact fu E B
 ·rw[getD_set_ne false A] at h;exact D i k h B
theorem q2u {B:Array Bool} {pl:List Nat} {np i:Nat} (A:chained md ops B pl np=true) (hi:i∈pl):i<np:=by
 unfold chained at A;simp only[aW,aP,decide_eq_true_eq] at A;exact(A.1.1 i hi).1
theorem kM {O:Array Bool} {pl:List Nat} {np:Nat} {listed:Array Bool} (J:Closed md ops listed) (B:chained md ops O pl np=true):∀ d i,np-i=d→i∈pl→listed.getD i false=false→listed.getD np false=false∧np∉Region.ready md ops listed:=by
 intro d
 induction d using Nat.strongRecOn with
 |ind d N=>
  intro i R hi hu;have L:=q2u B hi;have A:=B;unfold chained at A;simp only[aW,aP] at A;have h1:=(A.1.1 i hi).2;simp only[ef,aK,aW,decide_eq_true_eq,bX,beq_iff_eq,List.contains_iff_mem] at h1;obtain⟨k,S,⟨K,I⟩,F⟩:=h1;have E:listed.getD k false=false:=by
   cases h:listed.getD k false with
   |false=>rfl
   |true=>rw[J k i h I] at hu;cases hu
  by_cases D:k=np
  ·subst D;exact⟨E,fun M=>by rw[fu M I] at hu;cases hu⟩
  ·exact N (np-k) eK k rfl (F.resolve_left D) E
theorem lY {K:Array Bool} {pl:List Nat} {np i:Nat} {listed:Array Bool} (J:Closed md ops listed) (B:chained md ops K pl np=true) (hi:i∈pl) (hu:listed.getD i false=false):
  ∀ j,np≤j→K.getD j false=false→listed.getD j false=false∨ops.size≤j:=by
 intro j
 induction j using Nat.strongRecOn with
 |ind j O=>
  intro R E;by_cases D:j=np
  ·subst D;exact Or.inl (kM J B _ i rfl hi hu).1
  ·by_cases M:ops.size≤j
   ·exact Or.inr M
   ·have A:=B;unfold chained at A;simp only[aW,aP,aK] at A;have h1:=A.2 j eK;simp only[E,bX,aB,false_or,List.contains_iff_mem,beq_iff_eq,D,or_false,aW,decide_eq_true_eq,ef,aK,Bool.not_eq_true'] at h1;rcases h1 with h1|⟨-,k,L,⟨I,F⟩,N⟩
    ·exact absurd (q2u B h1) eK
    ·rcases O k L I F with h2|h2
     ·refine Or.inl ?_;cases h:listed.getD j false with
      |false=>rfl
      |true=>rw[J j k h N] at h2;cases h2
     ·omega
theorem mu {F:Array Bool} {pl:List Nat} {np i j:Nat} {listed:Array Bool} (N:Closed md ops listed) (L:∀ k,F.getD k false=true→listed.getD k false=true) (B:chained md ops F pl np=true) (hi:i∈pl) (hu:listed.getD i false=false) (E:j∈Region.ready md ops listed):j∈pl:=by
 have D:=fk (mem_ready.1 E).1;have I:F.getD j false=false:=by
  cases h:F.getD j false with
  |false=>rfl
  |true=>rw[L j h] at D;cases D
 obtain⟨-,o,O,-⟩:=mem_ready.1 E;have J:j<ops.size:=(bg.1 O).1;have A:=B;unfold chained at A;simp only[aW,aP,aK] at A;have h1:=A.2 j J;simp only[I,bX,aB,false_or,List.contains_iff_mem,beq_iff_eq,aW,decide_eq_true_eq,ef,aK,Bool.not_eq_true'] at h1;rcases h1 with (h1|h1)|⟨-,k,S,⟨M,K⟩,R⟩
 ·exact h1
 ·subst h1;exact absurd E (kM N B _ i rfl hi hu).2
 ·exfalso;rcases lY N B hi hu k M K with h2|h2
  ·rw[fu E R] at h2;cases h2
  ·omega
/-- The operations pl in whatever order, each quiet; then the rest, from whatever world of the class. -/
def lO (P:Program) (md:Region.Mode) (ops:Array Oper) (C:World→Prop) (Q:Exit→Act→World→Prop) (pl:List Nat) (fp:Nat):Nat→Array Bool→Act→Prop
 |0,listed,a=>(∀ i,i∈pl→listed.getD i false=true)∧∀ A,C A→wpAny P md ops Q fp listed a A
 |m+1,listed,a=>Region.ready md ops listed≠[]∧∀ i∈Region.ready md ops listed,qOp P ops C i (lO P md ops C Q pl fp m (listed.setIfInBounds i true)) a
theorem lR {pl:List Nat} {fp:Nat}:∀ (m:Nat) (listed:Array Bool) (a:Act) (w:World),C w→lO P md ops C Q pl fp m listed a→wpAny P md ops Q (fp+m) listed a w
 |0,_,_,_,hw,h=>h.2 _ hw
 |m+1,_,_,_,hw,h=>⟨fun D=>absurd D h.1,fun i hi=>wpOp_of_qOp hw (fun B E A=>lR m _ B E A) (h.2 i hi)⟩
theorem ni {l0:Array Bool} {pl:List Nat} {np fp i:Nat} {N:Oper} {v:Value} (hi:ops[i]? =some N) (I:∀ (j:Nat) (o:Oper) cs b,ops[j]? =some o→o.op≠ .select cs b) (Z:chained md ops l0 pl np=true) (d:i∈pl):
  ∀ (m:Nat) (listed:Array Bool) (a:Act),Closed md ops listed→(∀ k,l0.getD k false=true→listed.getD k false=true)→
   (∀ j L,ops[j]? =some L→j≠i→listed.getD j true=false→(∀ e∈L.after,Region.binds md e=true→e.on≠i)→N.apart ops L=true)→
   i∈Region.ready md ops listed→YieldsIn P ops C N v a→
   lO P md ops C Q pl fp m (listed.setIfInBounds i true) (a.put N.dst v)→lO P md ops C Q pl fp (m+1) listed a:=by
 intro m
 induction m with
 |zero=>
  intro listed a Y J _ F W H;refine⟨fun h=>(by rw[h] at F;cases F),fun j M=> ?_⟩;by_cases A:j=i
  ·subst A;exact W.qOp hi H
  ·exfalso;have hu:=fk (mem_ready.1 F).1;have h1:=H.1 j (mu Y J Z d hu M);rw[getD_set_ne false (bK A),fk (mem_ready.1 M).1] at h1;cases h1
 |succ m ih=>
  intro listed a Y J B F W H;refine⟨fun h=>(by rw[h] at F;cases F),fun j M=> ?_⟩;by_cases A:j=i
  ·subst A;exact W.qOp hi H
  ·have h1:=H.2 j (ready_mono M A);obtain⟨E,L,K,O⟩:=mem_ready.1 M;have S:∀ e∈L.after,Region.binds md e=true→e.on≠i:=fun e he hb c=>by
    have h1:=O e he hb;have h0:=(mem_ready.1 F).1;rw[c] at h1;rcases br i listed.size with X|X
    ·simp [X] at h0 h1;rw[h0] at h1;cases h1
    ·simp [Array.getElem?_eq_none X] at h1
   have h2:=qOp_put K (B j L K A E S) (fun cs b=>I i N cs b hi) (fun cs b=>I j L cs b K) W h1;have D:∀ k ok,ops[k]? =some ok→k≠i→(listed.setIfInBounds j true).getD k true=false→
     (∀ e∈ok.after,Region.binds md e=true→e.on≠i)→N.apart ops ok=true:=fun k ok s y U al=>by
    refine B k ok s y ?_ al;by_cases R:j=k
    ·subst R;exact E
    ·rw[getD_set_ne true R] at U;exact U
   refine qOp_mono (fun a' h3=>ih (listed.setIfInBounds j true) a' (Y.set M) (fun k s=>getD_set_true (J k s)) D (ready_mono F (bK A)) h3.1 ?_) h2;rw[Array.setIfInBounds_comm _ _ A];exact h3.2
def kt (md:Region.Mode) (ops:Array Oper) (pl:List Nat):List Nat→Array Bool→Bool
 |[],listed=>pl.all fun i=>listed.getD i false
 |k::ks,listed=>pl.contains k&&(Region.ready md ops listed).contains k&&Region.free md ops listed k&&kt md ops pl ks (listed.setIfInBounds k true)
def jE:List Nat→Array Bool→Array Bool
 |[],listed=>listed
 |k::ks,listed=>jE ks (listed.setIfInBounds k true)
theorem lP {N:Array Bool} {pl:List Nat} {np fp:Nat} (M:Region.noSelect ops=true) (B:chained md ops N pl np=true):∀ (A:List Nat) (l:List Oper) (listed:Array Bool) (a:Act),A.map (fun k=>ops[k]?)=l.map some→Closed md ops listed→
  (∀ k,N.getD k false=true→listed.getD k false=true)→kt md ops pl A listed=true→wpQuiet P ops C (fun I=>∀ E,C E→wpAny P md ops Q fp (jE A listed) I E) l a→lO P md ops C Q pl fp A.length listed a
 |[],[],listed,a,_,_,_,hB,h=>by
  refine⟨fun i hi=> ?_,h⟩;simp only[kt,aP] at hB;exact hB i hi
 |[],o::l,_,_,hl,_,_,_,_=>by simp at hl
 |k::A,[],_,_,hl,_,_,_,_=>by simp at hl
 |k::A,o::l,listed,a,hl,hc,hl0,hB,h=>by
  simp only[dj,List.cons.injEq] at hl;obtain⟨F,K⟩:=hl;simp only[kt,aW] at hB;obtain⟨⟨⟨U,W⟩,R⟩,J⟩:=hB;have L:qOp P ops C k (wpQuiet P ops C (fun I=>∀ E,C E→wpAny P md ops Q fp (jE A (listed.setIfInBounds k true)) I E) l) a:=by unfold qOp;simp only[F];exact h
  obtain⟨v,X,O⟩:=yieldsIn_of_qOp F L;have D:k∈Region.ready md ops listed:=by simpa using W
  exact ni F (Region.noSelect_spec M) B (by simpa using U) A.length listed a hc hl0 (Region.free_spec F R) D X
   (lP M B A l _ _ K (hc.set D) (fun k S=>getD_set_true (hl0 k S)) J O)
def iQ (md:Region.Mode) (ops:Array Oper) (listed:Array Bool):Bool:=
 (List.range listed.size).all fun j=> !listed.getD j false||(List.range (ops.size+j)).all fun k=> !waits md ops j k||listed.getD k false
/-- What no operation waits for beyond the region. -/
def iV (md:Region.Mode) (ops:Array Oper):Bool:=ops.all fun o=>o.after.all fun e=> !Region.binds md e||decide (e.on<ops.size)
theorem ki {listed:Array Bool} (h:iQ md ops listed=true) (E:iV md ops=true):Closed md ops listed:=by
 intro j k F I;unfold iQ at h;simp only[aP,aK,bX,Bool.not_eq_true'] at h;have D:j<listed.size:=by
  rcases br j listed.size with B|B
  ·exact B
  ·simp [Array.getElem?_eq_none B] at F
 rcases h j D with h1|h1
 ·rw[F] at h1;cases h1
 ·have J:k<ops.size:=by
   have A:=I;unfold waits at A;split at A
   ·rename_i o K
    simp only[Array.any_eq_true,aW,beq_iff_eq] at A;obtain⟨i,hi,hb,L⟩:=A;unfold iV at E;simp only[di,bX,Bool.not_eq_true',decide_eq_true_eq] at E;rcases E o (Array.mem_of_getElem? K) _ (Array.getElem_mem hi) with h2|h2
    ·rw[hb] at h2;cases h2
    ·omega
   ·cases A
  rcases h1 k eK with h2|h2
  ·rw[I] at h2;cases h2
  ·exact h2
/-- In a region that draws its order, operations that are quiet and for which all the rest waits are walked first. -/
theorem ru {np fp:Nat} {a:Act} {w:World} {listed:Array Bool} (pl:List Nat) (pre:List Oper) (A:pl.map (fun k=>ops[k]?)=pre.map some) (K:Region.noSelect ops=true)
  (B:chained md ops listed pl np=true) (J:iQ md ops listed=true) (L:iV md ops=true) (F:kt md ops pl pl listed=true) (I:C w)
  (h:wpQuiet P ops C (fun E=>∀ D,C D→wpAny P md ops Q fp (jE pl listed) E D) pre a):wpAny P md ops Q (fp+pl.length) listed a w:=
 lR pl.length _ a w I (lP (C:=C) (Q:=Q) (fp:=fp) K B pl pre listed a A (ki J L) (fun _ h=>h) F h)
theorem fo {i:Nat} {B:Oper} {v:Value} {A:Nat} {listed:Array Bool} {a:Act} {w:World} (hi:ops.toList[i]? =some B)
  (I:Region.noSelect ops=true) (E:Region.free md ops listed i=true) (F:(Region.ready md ops listed).contains i=true)
  (D:∀ c a w,Q (.panic c) (a.put B.dst v) w→Q (.panic c) a w) (J:Yields P ops B v a)
  (h:wpAny P md ops Q A (listed.setIfInBounds i true) (a.put B.dst v) w):wpAny P md ops Q (A+1) listed a w:=
 wpAny_take (by rw[← hi];simp) I E F D J h
/-- The same, for the worlds behind one. -/
theorem q1e {fp:Nat} {a:Act} {w J:World} {listed:Array Bool} (np:Nat) (pl:List Nat) (pre:List Oper) (D:pl.map (fun k=>ops.toList[k]?)=pre.map some) (O:Region.noSelect ops=true)
  (E:chained md ops listed pl np=true) (M:iQ md ops listed=true) (I:iV md ops=true) (K:kt md ops pl pl listed=true) (L:G w J)
  (h:∀ W,W=w→wpQuiet P ops (fun A=>∃ p:World,A=gw W p) (fun B=>∀ A,G w A→wpAny P md ops Q fp (jE pl listed) B A) pre a):wpAny P md ops Q (fp+pl.length) listed a J:=by
 refine ru (C:=fun A=>∃ p:World,A=gw w p) (np:=np) pl pre (by rw[← D];simp) O E M I K L.ex ?_;have h2:=h w rfl;have e:(fun B=>∀ A,G w A→wpAny P md ops Q fp (jE pl listed) B A)=(fun B=>∀ A,(∃ p:World,A=gw w p)→wpAny P md ops Q fp (jE pl listed) B A):=by
  funext B
  apply propext;constructor
  ·intro F A ⟨p,N⟩;rw[N];exact F _ (gw_G w p)
  ·intro F A I;exact F A I.ex
 rw[e] at h2;exact h2
end
end Go.Proofs.YtfnkkkcojnffdaaGreatDoor
