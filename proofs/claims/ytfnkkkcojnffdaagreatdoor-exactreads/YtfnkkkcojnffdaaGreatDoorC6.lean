/- What is proved here: a law of the walk: in a region that draws its order, loads are taken first where all ahead of the last writing call leave standing what they read.
What is proved here: a law of the walk: two operations that may come up, in a region whose loads were taken first.
What is proved here: a law of the walk: a region that draws its order, in which no operation turns what was there: each operation is shown once, for all orders.
What is proved here: records: blocks of a few cells that may be written.
What is proved here: a law of the walk: a region that draws its order, some operations of which have been taken ahead: each of the others up to a gate is shown once, for all orders.
What is proved here: a law of the walk: a region that draws its order, as in the text before, and of the blocks that it makes none is another one.
What is proved here: a law of the walk: a region that draws its order, told by what holds between its operations: each operation is shown once, for all orders. -/
import Derived.Test.YtfnkkkcojnffdaaGreatDoorC1
import Derived.Test.YtfnkkkcojnffdaaGreatDoorC5
import Derived.Deep.RegionHeld
namespace Go.Proofs.YtfnkkkcojnffdaaGreatDoor
section
variable {P:Program} {ops:Array Oper} {md:Region.Mode} {S:World→Prop} {Q:Exit→Act→World→Prop}
/-- Operation np waits, by way of others, for all before it, and all behind it wait for it. -/
def fe (md:Region.Mode) (ops:Array Oper) (np:Nat):Bool:=
 (List.range np).all (fun i=>(List.range (np+1)).any fun k=>decide (i<k)&&waits md ops k i)&&
 (List.range ops.size).all (fun j=>decide (j≤np)||(List.range j).any fun k=>decide (np≤k)&&waits md ops j k)
theorem iw {np:Nat} {listed:Array Bool} (E:Closed md ops listed) (A:fe md ops np=true):∀ d i,np-i=d→i<np→listed.getD i false=false→listed.getD np false=false∧np∉Region.ready md ops listed:=by
 intro d
 induction d using Nat.strongRecOn with
 |ind d J=>
  intro i K hi hu;unfold fe at A;simp only[br,b9,aO] at A;have h1:=A.1 i hi;simp only[List.any_eq_true,aO,br,decide_eq_true_eq] at h1;obtain⟨k,L,F,D⟩:=h1;have B:listed.getD k false=false:=by
   cases h:listed.getD k false with
   |false=>rfl
   |true=>rw[E k i h D] at hu;cases hu
  by_cases C:k=np
  ·subst C;exact⟨B,fun I=>by rw[eG I D] at hu;cases hu⟩
  ·exact J (np-k) dT k rfl dT B
theorem jz {np i:Nat} {listed:Array Bool} (E:Closed md ops listed) (B:fe md ops np=true) (hi:i<np) (hu:listed.getD i false=false):
  ∀ j,np≤j→listed.getD j false=false∨ops.size≤j:=by
 intro j
 induction j using Nat.strongRecOn with
 |ind j K=>
  intro L;by_cases C:j=np
  ·subst C;exact Or.inl (iw E B _ i rfl hi hu).1
  ·by_cases I:ops.size≤j
   ·exact Or.inr I
   ·have A:=B;unfold fe at A;simp only[br,b9,aO] at A;have h1:=A.2 j dT;simp only[cw,decide_eq_true_eq,List.any_eq_true,aO,br] at h1;rcases h1 with h1|⟨k,F,D,J⟩
    ·omega
    ·rcases K k F D with h2|h2
     ·refine Or.inl ?_;cases h:listed.getD j false with
      |false=>rfl
      |true=>rw[E j k h J] at h2;cases h2
     ·omega
theorem gq {np i j:Nat} {listed:Array Bool} (I:Closed md ops listed) (B:fe md ops np=true) (hi:i<np) (hu:listed.getD i false=false) (C:j∈Region.ready md ops listed):j<np:=by
 rcases bg j np with h|h
 ·exact h
 ·exfalso;obtain⟨-,o,J,-⟩:=mem_ready.1 C;have E:j<ops.size:=(aT.1 J).1;by_cases D:j=np
  ·subst D;exact(iw I B _ i rfl hi hu).2 C
  ·have A:=B;unfold fe at A;simp only[br,b9,aO] at A;have h1:=A.2 j E;simp only[cw,decide_eq_true_eq,List.any_eq_true,aO,br] at h1;rcases h1 with h1|⟨k,L,F,K⟩
   ·omega
   ·rcases jz I B hi hu k F with h2|h2
    ·rw[eG C K] at h2;cases h2
    ·omega
/-- Whatever order is picked from here on; S holds behind every operation ahead of np. -/
def eJ (P:Program) (md:Region.Mode) (ops:Array Oper) (Q:Exit→Act→World→Prop) (S:World→Prop) (np:Nat):Nat→Array Bool→Act→World→Prop
 |0,listed,a,w=>Region.ready md ops listed=[]∧Q .normal a w
 |fuel+1,listed,a,w=>
  (Region.ready md ops listed=[]→Q .normal a w)∧
  ∀ i∈Region.ready md ops listed,wpOp P ops Q i (fun B A=>(np≤i∨S A)∧eJ P md ops Q S np fuel (listed.setIfInBounds i true) B A) a w
theorem jO {np:Nat}:∀ (A:Nat) (listed:Array Bool) (a:Act) (w:World),eJ P md ops Q S np A listed a w→wpAny P md ops Q A listed a w
 |0,_,_,_,h=>h
 |A+1,_,_,_,h=>⟨h.1,fun i hi=>wpOp_mono (fun B D C=>jO A _ B D C.2) (h.2 i hi)⟩
theorem kN {np i:Nat} {K:Oper} {v:Value} (hi:ops[i]? =some K) (I:∀ (j:Nat) (o:Oper) cs b,ops[j]? =some o→o.op≠ .select cs b)
  (hQ:∀ c a w,Q (.panic c) (a.put K.dst v) w→Q (.panic c) a w) (d:fe md ops np=true) (s:i<np):
  ∀ (A:Nat) (listed:Array Bool) (a:Act) (w:World),Closed md ops listed→
   (∀ j L,ops[j]? =some L→j≠i→listed.getD j true=false→(∀ e∈L.after,Region.binds md e=true→e.on≠i)→K.apart ops L=true)→
   i∈Region.ready md ops listed→YieldsIf P ops S K v a→S w→
   eJ P md ops Q S np A (listed.setIfInBounds i true) (a.put K.dst v) w→eJ P md ops Q S np (A+1) listed a w:=by
 intro A
 induction A with
 |zero=>
  intro listed a w _ _ F Y N H;refine⟨fun h=>(by rw[h] at F;cases F),fun j M=> ?_⟩;by_cases B:j=i
  ·subst B;exact Y.wpOp hi N ⟨Or.inr N,H⟩
  ·have:=ready_mono M B;rw[H.1] at this;cases this
 |succ A ih=>
  intro listed a w hc C F Y N H;refine⟨fun h=>(by rw[h] at F;cases F),fun j M=> ?_⟩;by_cases B:j=i
  ·subst B;exact Y.wpOp hi N ⟨Or.inr N,H⟩
  ·have h1:=H.2 j (ready_mono M B);obtain⟨E,L,J,R⟩:=mem_ready.1 M;have am:=gq hc d s (eL (mem_ready.1 F).1) M;have W:∀ e∈L.after,Region.binds md e=true→e.on≠i:=fun e he hb m=>by
    have h1:=R e he hb;have h0:=(mem_ready.1 F).1;rw[m] at h1;rcases bg i listed.size with Z|Z
    ·simp [Z] at h0 h1;rw[h0] at h1;cases h1
    ·simp [Array.getElem?_eq_none Z] at h1
   have h2:=wpOp_putIf J (C j L J B E W) (fun cs b=>I i K cs b hi) (fun cs b=>I j L cs b J) hQ Y h1;have D:∀ k ok,ops[k]? =some ok→k≠i→(listed.setIfInBounds j true).getD k true=false→
     (∀ e∈ok.after,Region.binds md e=true→e.on≠i)→K.apart ops ok=true:=fun k ok hk y X al=>by
    refine C k ok hk y ?_ al;by_cases U:j=k
    ·subst U;exact E
    ·rw[getD_set_ne true U] at X;exact X
   refine wpOp_mono (fun a' w' h3=> ?_) h2;have O:S w':=h3.2.1.resolve_left dT;refine⟨Or.inr O,ih (listed.setIfInBounds j true) a' w' (hc.set M) D (ready_mono F (bk B)) h3.1 O ?_⟩;rw[Array.setIfInBounds_comm _ _ B];exact h3.2.2
/-- An operation that yields in every world that meets S is taken first. -/
theorem mb {np i:Nat} {C:Oper} {v:Value} {A:Nat} {listed:Array Bool} {a:Act} {w:World} (hi:ops.toList[i]? =some C)
  (M:Region.noSelect ops=true) (K:Region.free md ops listed i=true) (L:(Region.ready md ops listed).contains i=true)
  (D:fe md ops np=true) (E:decide (i<np)=true) (J:ja md ops listed=true) (N:jg md ops=true)
  (F:∀ c a w,Q (.panic c) (a.put C.dst v) w→Q (.panic c) a w) (O:YieldsIf P ops S C v a) (I:S w)
  (h:eJ P md ops Q S np A (listed.setIfInBounds i true) (a.put C.dst v) w):eJ P md ops Q S np (A+1) listed a w:=
 have B:ops[i]? =some C:=by rw[← hi];simp
 kN B (Region.noSelect_spec M) F D (by simpa using E) A listed a w (oh J N) (Region.free_spec B K) (by simpa using L) O I h
def qM (md:Region.Mode) (ops:Array Oper) (np i:Nat) (listed:Array Bool):Bool:=
 Region.noSelect ops&&(Region.free md ops listed i&&((Region.ready md ops listed).contains i&&(fe md ops np&&(decide (i<np)&&(ja md ops listed&&jg md ops)))))
/-- The same, what the kernel is to see in one. -/
theorem dU {np:Nat} (i:Nat) {C:Oper} {v:Value} {A:Nat} {listed:Array Bool} {a:Act} {w:World} (hi:ops.toList[i]? =some C) (B:qM md ops np i listed=true)
  (J:∀ c a w,Q (.panic c) (a.put C.dst v) w→Q (.panic c) a w) (D:Region.wanted C (yielded ops a.tmps)=true) (L:∀ w,S w→(execOp a.eval C).run P w= .ok (.value v) w) (K:S w)
  (h:eJ P md ops Q S np A (listed.setIfInBounds i true) (a.put C.dst v) w):eJ P md ops Q S np (A+1) listed a w:=by
 unfold qM at B;simp only[br] at B;obtain⟨h1,h2,h3,E,F,h6,I⟩:=B;exact mb hi h1 h2 h3 E F h6 I J (Or.inl ⟨D,L⟩) K h
theorem aput (l:List Value) (d:List Deferred) (t:Nat) (v:Value):Act.put {tmps:=l.toArray,defers:=d} (some t) v={tmps:=(l.set t v).toArray,defers:=d}:=by
 simp only[Act.put,aA]
/-- The only operation that may come up. -/
theorem dY {np i:Nat} {o:Oper} {A:Nat} {listed:Array Bool} {a:Act} {w:World} (F:Region.ready md ops listed=[i]) (L:ops.toList[i]? =some o)
  (h:∀ B:Act→World→Prop,Shut (∀ a w,(np≤i∨S w)→eJ P md ops Q S np A (listed.setIfInBounds i true) a w→B a w)→if Region.wanted o (yielded ops a.tmps)=true then Oper.wp P o a w B Q else B (a.put o.dst undef) w):
  eJ P md ops Q S np (A+1) listed a w:=by
 refine⟨fun D=>(by rw[F] at D;cases D),fun j E=> ?_⟩;rw[F] at E;have e:j=i:=by simpa using E
 subst e;have C:ops[j]? =some o:=by rw[← L];simp
 exact wpOp_step C (fun B I=>h B (fun a w J K=>I a w ⟨J,K⟩))
/-- All have come up. -/
theorem fa {np:Nat} {listed:Array Bool} {a:Act} {w:World} (B:Region.ready md ops listed=[]) (h:Q .normal a w):
  ∀ A,eJ P md ops Q S np A listed a w
 |0=>⟨B,h⟩
 |_+1=>⟨fun _=>h,by rw[B];simp⟩
/-- From the last writing call on S is asked no more. -/
theorem fS {id:Nat} {a:Act} {w:World} (np:Nat) (S:World→Prop) (B:P.follows .mixedOrders=true) (A:S w.drew)
  (h:S w.drew→eJ P .any ops Q S np ops.size (Array.replicate ops.size false) a w.drew):(Code.region id ops true).wp P Q a w:=
 wp_region_any B (jO _ _ _ _ (h A))
end
end Go.Proofs.YtfnkkkcojnffdaaGreatDoor
namespace Go.Proofs.YtfnkkkcojnffdaaGreatDoor
open Go.RowKit
/-- What several ways come to is proved once: its words are taken off the first way that reaches it. -/
def Later (T:Prop):Prop:=∃ _:True,T
theorem Later.out {T:Prop} (h:Later T):T:=h.elim fun _ x=>x
theorem Later.mk {T:Prop} (h:T):Later T:=⟨trivial,h⟩
theorem hid {T:Prop} (h:T):Hid T:=h
theorem share {T X:Prop} (main:Later T→X) (A:Later T):X:=main A
section
variable {P:Program} {ops:Array Oper} {md:Region.Mode} {S:World→Prop} {Q:Exit→Act→World→Prop}
/-- Two may come up. -/
theorem gX {np i j:Nat} {o p:Oper} {B:Nat} {listed:Array Bool} {a:Act} {w:World} (L:Region.ready md ops listed=[i,j]) (M:ops.toList[i]? =some o) (N:ops.toList[j]? =some p)
  (h1:∀ A:Act→World→Prop,Shut (∀ a w,(np≤i∨S w)→eJ P md ops Q S np B (listed.setIfInBounds i true) a w→A a w)→if Region.wanted o (yielded ops a.tmps)=true then Oper.wp P o a w A Q else A (a.put o.dst undef) w)
  (h2:∀ A:Act→World→Prop,Shut (∀ a w,(np≤j∨S w)→eJ P md ops Q S np B (listed.setIfInBounds j true) a w→A a w)→if Region.wanted p (yielded ops a.tmps)=true then Oper.wp P p a w A Q else A (a.put p.dst undef) w):
  eJ P md ops Q S np (B+1) listed a w:=by
 refine⟨fun J=>(by rw[L] at J;cases J),fun k K=> ?_⟩;rw[L] at K;have e:k=i∨k=j:=by simpa using K
 rcases e with e|e
 ·subst e;have F:ops[k]? =some o:=by rw[← M];simp
  exact wpOp_step F (fun A C=>h1 A (fun a w D E=>C a w ⟨D,E⟩))
 ·subst e;have I:ops[k]? =some p:=by rw[← N];simp
  exact wpOp_step I (fun A C=>h2 A (fun a w D E=>C a w ⟨D,E⟩))
/-- Three may come up. -/
theorem kO {np i j l:Nat} {o p q:Oper} {B:Nat} {listed:Array Bool} {a:Act} {w:World} (M:Region.ready md ops listed=[i,j,l]) (N:ops.toList[i]? =some o) (O:ops.toList[j]? =some p) (R:ops.toList[l]? =some q)
  (h1:∀ A:Act→World→Prop,Shut (∀ a w,(np≤i∨S w)→eJ P md ops Q S np B (listed.setIfInBounds i true) a w→A a w)→if Region.wanted o (yielded ops a.tmps)=true then Oper.wp P o a w A Q else A (a.put o.dst undef) w)
  (h2:∀ A:Act→World→Prop,Shut (∀ a w,(np≤j∨S w)→eJ P md ops Q S np B (listed.setIfInBounds j true) a w→A a w)→if Region.wanted p (yielded ops a.tmps)=true then Oper.wp P p a w A Q else A (a.put p.dst undef) w)
  (h3:∀ A:Act→World→Prop,Shut (∀ a w,(np≤l∨S w)→eJ P md ops Q S np B (listed.setIfInBounds l true) a w→A a w)→if Region.wanted q (yielded ops a.tmps)=true then Oper.wp P q a w A Q else A (a.put q.dst undef) w):
  eJ P md ops Q S np (B+1) listed a w:=by
 refine⟨fun K=>(by rw[M] at K;cases K),fun k L=> ?_⟩;rw[M] at L;have e:k=i∨k=j∨k=l:=by simpa using L
 rcases e with e|e|e
 ·subst e;have F:ops[k]? =some o:=by rw[← N];simp
  exact wpOp_step F (fun A C=>h1 A (fun a w D E=>C a w ⟨D,E⟩))
 ·subst e;have I:ops[k]? =some p:=by rw[← O];simp
  exact wpOp_step I (fun A C=>h2 A (fun a w D E=>C a w ⟨D,E⟩))
 ·subst e;have J:ops[k]? =some q:=by rw[← R];simp
  exact wpOp_step J (fun A C=>h3 A (fun a w D E=>C a w ⟨D,E⟩))
/-- Which have come up, written another way. -/
theorem fg {np A:Nat} {l B:Array Bool} {a:Act} {w:World} (h:l=B) (H:eJ P md ops Q S np A B a w):eJ P md ops Q S np A l a w:=by rw[h];exact H
end
end Go.Proofs.YtfnkkkcojnffdaaGreatDoor
namespace Go.Proofs.YtfnkkkcojnffdaaGreatDoor
open Go.RowKit
/-- What the value of an operation is: a given one; or one of a kind, in the world behind it and in all later ones. -/
inductive Kind where
 |is (c:Value)
 |any (p:Value→World→Prop)
def Kind.Held:Kind→Value→World→Prop
 | .is c,v,_=>v=c
 | .any p,v,w=>p v w
def Kind.pick:Kind→Value→Value
 | .is c,_=>c
 | .any _,v=>v
/-- What lasts. -/
def jU (p:Value→World→Prop):Prop:=∀ v w A,G w A→p v w→p v A
def Kind.Stays:Kind→Prop
 | .is _=>True
 | .any p=>jU p
theorem Kind.Stays.held {k:Kind} (h:k.Stays) {v:Value} {w A:World} (g:G w A) (hv:k.Held v w):k.Held v A:=by
 cases k with
 |is c=>exact hv
 |any p=>exact h v w A g hv
def eV:List Kind→Prop
 |[]=>True
 | .is _::l=>eV l
 | .any p::l=>jU p∧eV l
theorem iP:∀ {l:List Kind},eV l→∀ k∈l,k.Stays:=by
 intro l
 induction l with
 |nil=>intro _ k A;cases A
 |cons c l B=>
  intro h k A;cases c with
  |is c=>
   rcases bC.1 A with rfl|A
   ·trivial
   ·exact B h k A
  |any p=>
   rcases bC.1 A with rfl|A
   ·exact h.1
   ·exact B h.2 k A
/-- Letters for what isn't given. -/
def Letters:List Kind→(List Value→Prop)→Prop
 |[],T=>T []
 | .is c::l,T=>Letters l fun A=>T (c::A)
 | .any _::l,T=>∀ v,Letters l fun A=>T (v::A)
theorem Letters.get:∀ {l:List Kind} {T:List Value→Prop},Letters l T→∀ f:Nat→Value,T (l.zipIdx.map fun p=>p.1.pick (f p.2)):=by
 have main:∀ (l:List Kind) (T:List Value→Prop) (n:Nat),Letters l T→∀ f:Nat→Value,T ((l.zipIdx n).map fun p=>p.1.pick (f p.2)):=by
  intro l
  induction l with
  |nil=>intro T n h f;exact h
  |cons k l A=>
   intro T n h f;cases k with
   |is c=>exact A _ (n+1) h f
   |any p=>exact A _ (n+1) (h (f n)) f
 exact fun {l T} h f=>main l T 0 h f
section
variable {P:Program} {ops:Array Oper} {md:Region.Mode} {Q:Exit→Act→World→Prop}
def eK (ops:Array Oper) (i:Nat):Option Tmp:=(ops[i]?).bind (·.dst)
/-- The values of those of the first n that are listed, laid down. -/
def laid (ops:Array Oper) (f:Nat→Value) (listed:Nat→Bool) (a:Act):Nat→Act
 |0=>a
 |n+1=>if listed n then (laid ops f listed a n).put (eK ops n) (f n) else laid ops f listed a n
/-- All of them. -/
def fill:List Oper→List Value→Act→Act
 |o::l,v::vs,a=>fill l vs (a.put o.dst v)
 |_,_,a=>a
/-- The same, of the slots alone. -/
def eY:List (Option Tmp)→List Value→Act→Act
 |d::l,v::vs,a=>eY l vs (a.put d v)
 |_,_,a=>a
theorem qp (a:Act) (d:Option Tmp) (v:Value):(a.put d v).tmps.size=a.tmps.size:=by cases d<;>simp [Act.put]
theorem mN {a:Act} {dst:Option Tmp} {v:Value} {t:Nat} (h:dst≠some t):(a.put dst v).tmps[t]? =a.tmps[t]? :=by
 cases dst with
 |none=>rfl
 |some d=>
  have A:d≠t:=fun e=>h (by rw[e]);simp [Act.put,Array.getElem?_setIfInBounds_ne A]
theorem put_defers (a:Act) (d:Option Tmp) (v:Value):(a.put d v).defers=a.defers:=by cases d<;>rfl
theorem fA (f:Nat→Value) (listed:Nat→Bool) (a:Act) (n:Nat):(laid ops f listed a n).tmps.size=a.tmps.size:=by
 induction n with
 |zero=>rfl
 |succ n A=>simp only[laid];split<;>simp [qp,A]
theorem eZ {f g:Nat→Value} {l m:Nat→Bool} (a:Act) (n:Nat) (h:∀ j,j<n→l j=m j∧(l j=true→f j=g j)):laid ops f l a n=laid ops g m a n:=by
 induction n with
 |zero=>rfl
 |succ n A=>
  simp only[laid];obtain⟨h1,h2⟩:=h n dT;rw[A (fun j B=>h j dT),← h1];split
  ·rw[h2 kV]
  ·rfl
theorem jt {f:Nat→Value} {l:Nat→Bool} (a:Act) {i:Nat} (v:Value) (E:l i=false):∀ n,i<n→(∀ j,j<n→j≠i→∀ d,eK ops i=some d→eK ops j≠some d)→
  laid ops (fun j=>if j=i then v else f j) (fun j=>if j=i then true else l j) a n=(laid ops f l a n).put (eK ops i) v:=by
 intro n
 induction n with
 |zero=>intro h;omega
 |succ n F=>
  intro C B;by_cases A:n=i
  ·subst A;simp only[laid,if_true,E,aE,if_false]
   congr 1
   refine eZ a n fun j D=> ?_;have:j≠n:=by omega
   simp [this]
  ·simp only[laid,A,if_false];rw[F dT (fun j D=>B j dT)];split
   ·exact Act.put_comm _ v (f n) (fun d h1=>B n dT A d h1)
   ·rfl
theorem js {f:Nat→Value} {l m:Nat→Bool} (a:Act) {t:Nat}:∀ n,(∀ j,j<n→eK ops j=some t→l j=m j)→(∀ j A,j<n→A<n→eK ops j=some t→eK ops A=some t→j=A)→
  (laid ops f l a n).tmps[t]? =(laid ops f m a n).tmps[t]? :=by
 intro n
 induction n with
 |zero=>intro _ _;rfl
 |succ n E=>
  intro h hu;have hi:=E (fun j C=>h j dT) (fun j A C D=>hu j A dT dT);by_cases B:eK ops n=some t
  ·have e:=h n dT B;simp only[laid,← e];split
   ·rw[B];simp only[Act.put,dH,fA];split
    ·rfl
    ·exact hi
   ·exact hi
  ·simp only[laid];split<;>split<;>simp only[mN B,hi]
theorem iH (f:Nat→Value) (a:Act):∀ (l pre:List Oper) (A:List Value) (b:Act),ops.toList.take (pre.length+l.length)=pre++l→A=(List.range l.length).map (fun i=>f (pre.length+i))→b=laid ops f (fun _=>true) a pre.length→
  fill l A b=laid ops f (fun _=>true) a (pre.length+l.length):=by
 intro l
 induction l with
 |nil=>intro pre A b _ _ hb;simp only[fill,cW,aP];exact hb
 |cons o l D=>
  intro pre A b B hv hb;have C:ops[pre.length]? =some o:=by
   have h1:(ops.toList.take (pre.length+(o::l).length))[pre.length]? =some o:=by rw[B];simp
   rw[cU,if_pos eO] at h1;rw[← h1];simp
  rw[hv,aK,List.range_succ_eq_map];simp only[dB,aP,fill,List.map_map];have:=D (pre++[o]) ((List.range l.length).map fun i=>f ((pre++[o]).length+i)) (b.put o.dst (f pre.length))
   (by rw[cM,List.singleton_append,← B];congr 1;simp only[ag,aK,cW];omega) rfl
   (by rw[hb,ag,aK,cW];simp only[laid,if_true,eK,C,Option.bind_some])
  rw[show pre.length+(l.length+1)=(pre++[o]).length+l.length from by simp;omega];rw[← this]
  congr 2
  funext i
  simp only[Function.comp,ag,aK,cW]
  congr 1;omega
theorem jd {A b:Act} {dst:Option Tmp} {u v:Value} (D:A.tmps.size=b.tmps.size) (h:A.put dst u=A.put dst v):b.put dst u=b.put dst v:=by
 cases dst with
 |none=>rfl
 |some d=>
  by_cases C:d<A.tmps.size
  ·have h1:(A.put (some d) u).tmps[d]? =(A.put (some d) v).tmps[d]? :=by rw[h]
   simp only[Act.put,Array.getElem?_setIfInBounds_self,C,if_true,cm] at h1;rw[h1]
  ·have B:b.tmps.size≤d:=by rw[← D];exact Nat.le_of_not_lt C
   simp only[Act.put];rw[Array.setIfInBounds_eq_of_size_le B,Array.setIfInBounds_eq_of_size_le B]
def noQ:Exit→Act→World→Prop:=fun _ _ _=>False
theorem q1D:¬ LetsOut noQ:=fun ⟨_,_,h⟩=>h
/-- What was shown of an operation in one act, in another one in which it sees the same. -/
theorem iR {o:Oper} {A b:Act} {H:Value→World→Prop} {K:Act→World→Prop} {r:Result Next} (I:A.tmps.size=b.tmps.size)
  (h:o.upon P A (fun E B=>∃ v,E=A.put o.dst v∧H v B) noQ r) (F:∀ v B,H v B→K (b.put o.dst v) B):o.upon P b K Q r:=by
 have step:∀ {u B},(∃ v,A.put o.dst u=A.put o.dst v∧H v B)→K (b.put o.dst u) B:=by
  rintro u B ⟨v,h1,h2⟩;rw[jd I h1];exact F v B h2
 cases r with
 |ok n B=>
  cases n<;>simp only[Oper.upon] at h ⊢
  case value u=>exact step h
  case skip=>exact step h
  case defer d=>
   obtain⟨v,h1,-⟩:=h;have h2:=congrArg (fun x:Act=>x.defers.length) h1;simp only[put_defers,aK] at h2;omega
  case enter f args=>
   refine Calls.mono h fun e D C=> ?_;cases e with
   |returned u=>exact step C
   |panicked c=>exact C.elim
   |outgrown=>exact absurd C q1D
  case row row args=>exact Rows.mono h fun u D C=>step C
 |halt x B=>
  cases x<;>simp only[Oper.upon] at h ⊢
  case panic u=>exact h.elim
/-- The gate: all before np are listed ahead of it, and it ahead of what is behind it. -/
def fw (md:Region.Mode) (ops:Array Oper) (np:Nat):Bool:=
 (np==ops.size||fe md ops np)&&decide (np≤ops.size)&&Region.noSelect ops&&
 (List.range np).all (fun i=>(List.range np).all fun j=>i==j||(eK ops i).isNone||eK ops i != eK ops j)&&
 (List.range np).all (fun i=>match ops[i]? with
  |some o=>o.after.all fun e=> !Region.binds md e||decide (e.on<i)
  |none=>true)&&
 (List.range np).all (fun i=>match ops[i]? with
  |some o=>(List.range np).all fun j=>(match eK ops j with
   |some t=> !(o.looksAt ops).contains t
   |none=>true)||waits md ops i j
  |none=>true)
/-- What is known of what i waits for. -/
def Deps (md:Region.Mode) (ops:Array Oper) (i:Nat) (w:World):Nat→List Kind→List Value→Prop
 |j,.any p::l,v::vs=>(waits md ops i j=true→p v w)∧Deps md ops i w (j+1) l vs
 |j,.is _::l,_::vs=>Deps md ops i w (j+1) l vs
 |_,_,_=>True
theorem kl {i:Nat} {w:World} {f:Nat→Value}:∀ {l:List Kind} {n:Nat},(∀ (j:Nat) (k:Kind),l[j]? =some k→waits md ops i (n+j)=true→k.Held (f (n+j)) w)→Deps md ops i w n l ((l.zipIdx n).map fun p=>p.1.pick (f p.2)):=by
 intro l
 induction l with
 |nil=>intro n _;trivial
 |cons k l D=>
  intro n h;have B:=D (n:=n+1) (fun j k C A=>by
   have:=h (j+1) k (by simpa using C) (by rw[← A];congr 1;omega)
   rwa[show n+1+j=n+(j+1) from by omega])
  cases k with
  |is c=>exact B
  |any p=>exact⟨fun A=>h 0 _ rfl A,B⟩
/-- What is known behind them all. -/
def Helds (w:World):List Kind→List Value→Prop
 | .any p::l,v::vs=>p v w∧Helds w l vs
 | .is _::l,_::vs=>Helds w l vs
 |_,_=>True
theorem jr {w:World} {f:Nat→Value}:∀ {l:List Kind} {n:Nat},(∀ (j:Nat) (k:Kind),l[j]? =some k→k.Held (f (n+j)) w)→Helds w l ((l.zipIdx n).map fun p=>p.1.pick (f p.2)):=by
 intro l
 induction l with
 |nil=>intro n _;trivial
 |cons k l C=>
  intro n h;have A:=C (n:=n+1) (fun j k B=>by
   have:=h (j+1) k (by simpa using B)
   rwa[show n+1+j=n+(j+1) from by omega])
  cases k with
  |is c=>exact A
  |any p=>exact⟨h 0 _ rfl,A⟩
/-- What is to be shown of operation i. -/
def Each (P:Program) (md:Region.Mode) (ops:Array Oper) (R:List Kind) (w0:World) (D:List Value) (A:Act) (i:Nat) (o:Oper) (k:Kind):Prop:=
 ∀ w,G w0 w→Deps md ops i w 0 R D→∀ K:Act→World→Prop,Hid (∀ C B,(∃ v,C=A.put o.dst v∧G w B∧k.Held v B)→K C B)→
  if Region.wanted o (yielded ops A.tmps)=true then Oper.wp P o A w K noQ else K (A.put o.dst undef) w
def Eaches (P:Program) (md:Region.Mode) (ops:Array Oper) (R:List Kind) (w0:World) (B:List Value) (A:Act):Nat→List Oper→List Kind→Prop
 |i,o::l,k::ks=>Each P md ops R w0 B A i o k∧Eaches P md ops R w0 B A (i+1) l ks
 |_,_,_=>True
theorem Eaches.get {R:List Kind} {w0:World} {C:List Value} {A:Act}:∀ {l:List Oper} {B:List Kind} {n:Nat},Eaches P md ops R w0 C A n l B→∀ {j o k},l[j]? =some o→B[j]? =some k→Each P md ops R w0 C A (n+j) o k:=by
 intro l
 induction l with
 |nil=>intro B n _ j o k h;simp at h
 |cons o l D=>
  intro B n h j F E h1 h2;cases B with
  |nil=>simp at h2
  |cons k B=>
   cases j with
   |zero=>
    simp only[bU,cm] at h1 h2;subst h1;subst h2;exact h.1
   |succ j=>
    have:=D h.2 (by simpa using h1) (by simpa using h2)
    rwa[show n+(j+1)=n+1+j from by omega]
theorem fP {listed:Array Bool} {np i0:Nat} (A:i0<np) (B:listed.getD i0 false=false):∃ i,i<np∧listed.getD i false=false∧∀ j,j<i→listed.getD j false=true:=by
 induction i0 using Nat.strongRecOn with
 |ind i D=>
  by_cases h:∃ j,j<i∧listed.getD j false=false
  ·obtain⟨j,h1,h2⟩:=h;exact D j h1 dT h2
  ·refine⟨i,A,B,fun j C=> ?_⟩;cases h1:listed.getD j false with
   |true=>rfl
   |false=>exact absurd ⟨j,C,h1⟩ h
theorem iF {l:Nat→Bool} {np i m:Nat} (hi:i<np) (hu:l i=false) (B:((List.range np).countP fun j=> !l j)=m+1):((List.range np).countP fun j=> !(if j=i then true else l j))=m:=by
 have main:∀ n,((List.range n).countP fun j=> !l j)=((List.range n).countP fun j=> !(if j=i then true else l j))+if i<n then 1 else 0:=by
  intro n
  induction n with
  |zero=>rfl
  |succ n A=>
   rw[List.range_succ,List.countP_append,List.countP_append,A];simp only[List.countP_cons,List.countP_nil];by_cases h1:n=i
   ·subst h1;simp [hu]
   ·by_cases h2:i<n
    ·have h3:i<n+1:=by omega
     simp only[h1,if_false,h2,h3,if_true];omega
    ·have h3:¬ i<n+1:=by omega
     simp only[h1,if_false,h2,h3];omega
 have h1:=main np;rw[if_pos hi] at h1;omega
theorem ko {R:List Kind} {np:Nat} {a:Act} {w0:World} (am:fw md ops np=true) (hR:R.length=np) (cl:∀ k∈R,k.Stays)
  (H:∀ f:Nat→Value,Eaches P md ops R w0 (R.zipIdx.map fun p=>p.1.pick (f p.2)) (laid ops (fun i=>((R[i]?).map (·.pick (f i))).getD undef) (fun _=>true) a np) 0 (ops.toList.take np) R)
  {fuel0:Nat} (ao:∀ (f:Nat→Value) w,G w0 w→(∀ (j:Nat) (k:Kind),R[j]? =some k→k.Held (f j) w)→∀ listed:Array Bool,listed.size=ops.size→(∀ j,j<np→listed.getD j false=true)→(∀ j,np≤j→listed.getD j false=false)→
   wpAny P md ops Q fuel0 listed (laid ops f (fun _=>true) a np) w):
  ∀ (m:Nat) (listed:Array Bool) (f:Nat→Value) (w:World),listed.size=ops.size→Closed md ops listed→(∀ j,np≤j→listed.getD j false=false)→
   ((List.range np).countP fun j=> !listed.getD j false)=m→G w0 w→(∀ (j:Nat) (k:Kind),R[j]? =some k→listed.getD j false=true→k.Held (f j) w)→
   wpAny P md ops Q (fuel0+m) listed (laid ops f (fun j=>listed.getD j false) a np) w:=by
 unfold fw at am;simp only[br,cw,beq_iff_eq,decide_eq_true_eq] at am;obtain⟨⟨⟨⟨⟨s,cx⟩,bz⟩,X⟩,J⟩,M⟩:=am;have K:∀ i j,i<np→j<np→j≠i→∀ d,eK ops i=some d→eK ops j≠some d:=by
  intro i j hi B al d h1 h2;simp only[b9,aO,cw,beq_iff_eq,bne_iff_ne,ne_eq] at X;rcases X i hi j B with (h|h)|h
  ·exact al h.symm
  ·rw[h1] at h;simp at h
  ·exact h (by rw[h1,h2])
 have W:∀ i j o t,i<np→j<np→ops[i]? =some o→eK ops j=some t→t∈o.looksAt ops→waits md ops i j=true:=by
  intro i j o t hi B E hd ht;simp only[b9,aO] at M;have h1:=M i hi;rw[E] at h1;simp only[b9,aO] at h1;have h2:=h1 j B;rw[hd] at h2;simpa [ht] using h2
 intro m
 induction m with
 |zero=>
  intro listed f w an hc y hm hG hh;have D:∀ j,j<np→listed.getD j false=true:=by
   intro j B;rw[List.countP_eq_zero] at hm;have:=hm j (aO.2 B);simpa using this
  have e:laid ops f (fun j=>listed.getD j false) a np=laid ops f (fun _=>true) a np:=eZ a np fun j B=>⟨D j B,fun _=>rfl⟩;rw[e];exact ao f w hG (fun j k O=>hh j k O (D j (by rw[← hR];exact(aQ.1 O).1))) listed an D y
 |succ m ih=>
  intro listed f w an hc y hm hG hh;obtain⟨i0,ap,ca⟩:∃ i,i<np∧listed.getD i false=false:=by
   have:0<(List.range np).countP fun j=> !listed.getD j false:=by omega
   rw[List.countP_pos_iff] at this;obtain⟨j,h1,h2⟩:=this;exact⟨j,aO.1 h1,by simpa using h2⟩
  -- the least one that is not listed may come up
  have bu:∀ j,j∈Region.ready md ops listed→j<np:=by
   intro j B;obtain⟨-,o,E,-⟩:=mem_ready.1 B;have cr:j<ops.size:=(aT.1 E).1;rcases s with h|h
   ·omega
   ·exact gq hc h ap ca B
  refine⟨fun h0=> ?_,fun i hi=> ?_⟩
  ·exfalso;obtain⟨i,hi,hu,bq⟩:=fP ap ca;have bi:i<ops.size:=by omega
   have E:ops[i]? =some ops[i]:=cJ bi;have Z:i∈Region.ready md ops listed:=mem_ready.2 ⟨by simp only[Array.getD_eq_getD_getElem?,cJ (show i<listed.size by omega),di] at hu ⊢;exact hu,ops[i],E,fun e he hb=>by
    simp only[b9,aO] at J;have h1:=J i hi;rw[E] at h1;simp only[dy] at h1;have h2:=h1 e he;simp only[hb,cP,Bool.false_or,decide_eq_true_eq] at h2;exact bq _ h2⟩
   rw[h0] at Z;cases Z
  ·have L:=bu i hi;obtain⟨cd,o,E,D⟩:=mem_ready.1 hi;have cb:=eL cd;have bi:i<ops.size:=by omega
   obtain⟨k,O⟩:∃ k,R[i]? =some k:=⟨R[i]'(by omega),aB dT⟩;have hE:=(H f).get (j:=i) (o:=o) (k:=k) (by rw[cU,if_pos L];simpa using E) O;rw[az] at hE;have hD:Deps md ops i w 0 R (R.zipIdx.map fun p=>p.1.pick (f p.2)):=kl (n:=0) fun j k O hw=>by
    rw[az] at hw ⊢;exact hh j k O (eG hi hw)
   have ce:∀ (j:Nat) (k:Kind),R[j]? =some k→listed.getD j false=true→k.pick (f j)=f j:=fun j k O hl=>by
    have:=hh j k O hl;cases k with
    |is c=>exact this.symm
    |any p=>rfl
   obtain⟨A,hA⟩:∃ A,A=laid ops (fun i=>((R[i]?).map (·.pick (f i))).getD undef) (fun _=>true) a np:=⟨_,rfl⟩;rw[← hA] at hE;have Y:∀ t,t∈o.looksAt ops→A.tmps[t]? =(laid ops f (fun j=>listed.getD j false) a np).tmps[t]? :=by
    intro t ht;have e1:laid ops f (fun j=>listed.getD j false) a np=laid ops (fun i=>((R[i]?).map (·.pick (f i))).getD undef) (fun j=>listed.getD j false) a np:=eZ a np fun j B=>⟨rfl,fun hl=>by
     have bn:R[j]? =some (R[j]'(by omega)):=aB dT;rw[bn];simp only[cq,di];exact(ce j _ bn hl).symm⟩
    rw[e1,hA];refine js a np (fun j B hd=> ?_) (fun j j' B cc h1 h2=> ?_)
    ·exact(eG hi (W i j o t L B E hd ht)).symm
    ·by_cases bl:j'=j
     ·exact bl.symm
     ·exact absurd h2 (K j j' B cc bl t h1)
   have bv:A.tmps.size=(laid ops f (fun j=>listed.getD j false) a np).tmps.size:=by rw[hA,fA,fA]
   have hex:execOp (laid ops f (fun j=>listed.getD j false) a np).eval o=execOp A.eval o:=by
    refine execOp_congr o (fun cs b=>Region.noSelect_spec bz i o cs b E) fun x hx=> ?_;cases x with
    |tmp t=>
     have:=Y t (ck _ (List.mem_filterMap.2 ⟨.tmp t,by simpa using hx,rfl⟩));simp [Act.eval,this]
    |_=>rfl
   have cn:Region.wanted o (yielded ops (laid ops f (fun j=>listed.getD j false) a np).tmps)=Region.wanted o (yielded ops A.tmps):=by
    unfold Region.wanted;cases hg:o.guard with
    |none=>rfl
    |some gw=>
     obtain⟨g,want⟩:=gw;have:yielded ops (laid ops f (fun j=>listed.getD j false) a np).tmps g=yielded ops A.tmps g:=by
      unfold yielded;cases ht:(ops[g]?).bind (·.dst) with
      |none=>rfl
      |some t=>
       have h1:=Y t (by simp [Oper.looksAt,hg,ht]);simp [h1]
     simp only[this]
   have N:∀ v F,(G w F∧k.Held v F)→wpAny P md ops Q (fuel0+m) (listed.setIfInBounds i true) ((laid ops f (fun j=>listed.getD j false) a np).put o.dst v) F:=by
    rintro v F ⟨g,hv⟩;have e1:o.dst=eK ops i:=by simp [eK,E]
    rw[e1,← jt a v cb np L (fun j B al=>K i j L B al)];have e2:(fun j=>if j=i then true else listed.getD j false)=fun j=>(listed.setIfInBounds i true).getD j false:=by
     funext j
     by_cases C:j=i
     ·subst C;simp;omega
     ·rw[getD_set_ne false (bk C),if_neg C]
    rw[e2];refine ih _ _ F (by simpa using an) (hc.set hi) (fun j B=> ?_) ?_ (hG.trans g) (fun j k' U hl=> ?_)
    ·rw[getD_set_ne false dT];exact y j B
    ·have h5:=iF (l:=fun j=>listed.getD j false) (m:=m) (np:=np) L cb hm;have e3:(fun j=> !(if j=i then true else listed.getD j false))=fun j=> !(listed.setIfInBounds i true).getD j false:=by
      funext j
      exact congrArg (fun b=> !b) (congrFun e2 j)
     rw[← e3];exact h5
    ·by_cases C:j=i
     ·subst C;rw[O] at U;cases U;simpa using hv
     ·rw[getD_set_ne false (bk C)] at hl;have ci:k'∈R:=bH U;simpa [C] using (cl k' ci).held g (hh j k' U hl)
   have I:=hE w hG hD (fun a' F=>∃ v,a'=A.put o.dst v∧G w F∧k.Held v F) (fun a' F h=>h);unfold wpOp;rw[E];simp only[cn];split
   ·rename_i hw
    simp only[hw,if_true] at I;left;unfold Oper.wp at I ⊢;rw[hex];exact iR (H:=fun v F=>G w F∧k.Held v F) bv I N
   ·rename_i hw
    simp only[hw,aE,if_false] at I;obtain⟨v,h1,h2⟩:=I;rw[jd bv h1];exact N v w h2
theorem kt:∀ (l:List Oper) (A:List Value) (a:Act),fill l A a=eY (l.map (·.dst)) A a:=by
 intro l
 induction l with
 |nil=>intro A a;cases A<;>rfl
 |cons o l B=>
  intro A a;cases A with
  |nil=>rfl
  |cons v A=>exact B A _
/-- What is to be shown: of each operation, and from behind them all on. -/
def gY (P:Program) (ops:Array Oper) (Q:Exit→Act→World→Prop) (np m:Nat) (E:Array Bool) (R:List Kind) (D:List (Option Tmp)) (a:Act) (w:World) (B:List Value):Prop:=
 ∀ A,A=eY D B a→Eaches P .any ops R w B A 0 (ops.toList.take np) R∧
   ∀ C,G w C→Helds C R B→wpAny P .any ops Q m E A C
/-- A region that draws its order: its first np operations, each of which leaves standing what was there, once each; then what is behind the gate. -/
theorem iZ {id:Nat} {a:Act} {w:World} (np m:Nat) (U:Array Bool) (R:List Kind) (F:List (Option Tmp)) (y:P.follows .mixedOrders=true) (C:fw .any ops np=true) (W:R.length=np) (s:(ops.toList.take np).map (·.dst)=F) (N:eV R)
  (al:ops.size=np+m) (K:Array.replicate np true++Array.replicate m false=U) (h:Letters R (gY P ops Q np m U R F a w)):
  (Code.region id ops true).wp P Q a w:=by
 refine wp_region_any y ?_;have M:np≤ops.size:=by
  unfold fw at C;simp only[br,decide_eq_true_eq] at C;exact C.1.1.1.1.2
 have Y:(ops.toList.take np).length=np:=by simp;omega
 have B:∀ f:Nat→Value,eY F (R.zipIdx.map fun p=>p.1.pick (f p.2)) a=laid ops (fun i=>((R[i]?).map (·.pick (f i))).getD undef) (fun _=>true) a np:=by
  intro f;rw[← s,← kt];have:=iH (ops:=ops) (fun i=>((R[i]?).map (·.pick (f i))).getD undef) a (ops.toList.take np) [] (R.zipIdx.map fun p=>p.1.pick (f p.2)) a
   eO (by
    rw[Y];refine List.ext_getElem (by simp [W]) fun i h1 h2=> ?_;have hi:i<R.length:=by simpa using h1
    simp [hi]) rfl
  simpa [Y,Nat.min_eq_left M] using this
 have key:=ko (P:=P) (md:= .any) (ops:=ops) (Q:=Q) (R:=R) (np:=np) (a:=a) (w0:=w) C W (iP N) (fun f=>by
   have h1:=(h.get f _ (B f).symm).1;exact h1) (fuel0:=m) (fun f w' g X listed O L I=>by
   have hp:∀ (j:Nat) (k:Kind),R[j]? =some k→k.pick (f j)=f j:=fun j k J=>by
    have:=X j k J;cases k with
    |is c=>exact this.symm
    |any p=>rfl
   have h2:=(h.get f _ (B f).symm).2 w' g (jr (n:=0) (f:=f) fun j k J=>by rw[az];exact X j k J);have Z:laid ops f (fun _=>true) a np=laid ops (fun i=>((R[i]?).map (·.pick (f i))).getD undef) (fun _=>true) a np:=eZ a np fun j D=>⟨rfl,fun _=>by
    have E:R[j]? =some (R[j]'(by omega)):=aB dT;rw[E];simp only[cq,di];exact(hp j _ E).symm⟩
   have d:listed=U:=by
    rw[← K];refine Array.ext (by simp [O];omega) fun j h1 h2=> ?_;have o:listed[j]=listed.getD j false:=by simp [h1]
    rw[o];by_cases D:j<np
    ·rw[L j D,Array.getElem_append_left (by simpa using D)];simp
    ·rw[I j dT,Array.getElem_append_right (by simpa using D)];simp
   rw[Z,d];exact h2) np (Array.replicate ops.size false) (fun _=>undef) w.drew eO (fun j k D _=>by
    by_cases A:j<ops.size<;>simp [A] at D) (fun j _=>by by_cases A:j<ops.size<;>simp [A]) (by
    have:∀ n,((List.range n).countP fun j=> !(Array.replicate ops.size false).getD j false)=n:=by
     intro n;rw[List.countP_eq_length.2,List.length_range];intro j _;by_cases A:j<ops.size<;>simp [A]
    exact this np) (af _).drew (fun j k _ D=>by by_cases A:j<ops.size<;>simp [A] at D)
 have e:laid ops (fun _=>undef) (fun j=>(Array.replicate ops.size false).getD j false) a np=a:=by
  have:∀ n,laid ops (fun _=>undef) (fun j=>(Array.replicate ops.size false).getD j false) a n=a:=by
   intro n
   induction n with
   |zero=>rfl
   |succ n ih=>
    have e0:(Array.replicate ops.size false).getD n false=false:=by by_cases A:n<ops.size<;>simp [A]
    simp only[laid,e0,aE,if_false,ih]
  exact this np
 rw[e] at key;rw[show m+np=ops.size from by omega] at key;exact key
theorem Letters.nil {T:List Value→Prop} (h:T []):Letters [] T:=h
theorem Letters.is {c:Value} {l:List Kind} {T:List Value→Prop} (h:Letters l fun A=>T (c::A)):Letters (.is c::l) T:=h
theorem Letters.any {p:Value→World→Prop} {l:List Kind} {T:List Value→Prop} (h:∀ v,Letters l fun A=>T (v::A)):Letters (.any p::l) T:=h
theorem Eaches.nil {R:List Kind} {w0:World} {B:List Value} {A:Act} {i:Nat} {l:List Oper}:Eaches P md ops R w0 B A i l []:=by cases l<;>trivial
theorem Eaches.cons {R:List Kind} {w0:World} {B:List Value} {A:Act} {i:Nat} {l L:List Oper} {o:Oper} {k:Kind} {C:List Kind} (e:l=o::L) (h:Each P md ops R w0 B A i o k) (h2:Eaches P md ops R w0 B A (i+1) L C):Eaches P md ops R w0 B A i l (k::C):=by
 subst e;exact⟨h,h2⟩
theorem ai:type_of% @Eaches.cons:= @Eaches.cons
theorem Deps.get {i:Nat} {w:World} {p:Value→World→Prop} {v:Value}:∀ {R:List Kind} {A:List Value} {n:Nat} (j:Nat),Deps md ops i w n R A→R[j]? =some (.any p)→A[j]? =some v→waits md ops i (n+j)=true→p v w:=by
 intro R
 induction R with
 |nil=>intro A n j _ h;simp at h
 |cons k R C=>
  intro A n j h h1 h2 h3;cases A with
  |nil=>simp at h2
  |cons u A=>
   cases j with
   |zero=>
    simp only[bU,cm] at h1 h2;subst h1;subst h2;exact h.1 h3
   |succ j=>
    have B:waits md ops i (n+1+j)=true:=by rw[← h3];congr 1;omega
    cases k with
    |is c=>exact C j h (by simpa using h1) (by simpa using h2) B
    |any q=>exact C j h.2 (by simpa using h1) (by simpa using h2) B
theorem Helds.get {w:World} {p:Value→World→Prop} {v:Value}:∀ {R:List Kind} {A:List Value} (j:Nat),Helds w R A→R[j]? =some (.any p)→A[j]? =some v→p v w:=by
 intro R
 induction R with
 |nil=>intro A j _ h;simp at h
 |cons k R B=>
  intro A j h h1 h2;cases A with
  |nil=>simp at h2
  |cons u A=>
   cases j with
   |zero=>
    simp only[bU,cm] at h1 h2;subst h1;subst h2;exact h.1
   |succ j=>
    cases k with
    |is c=>exact B j h (by simpa using h1) (by simpa using h2)
    |any q=>exact B j h.2 (by simpa using h1) (by simpa using h2)
end
end Go.Proofs.YtfnkkkcojnffdaaGreatDoor
namespace Go.Proofs.YtfnkkkcojnffdaaGreatDoor
open Go.ChangeShapes Go.WideShapes Go.ChangeAt Go.RowKit
/-- Block b is these cells; they may be written. -/
def Rec (w:World) (b:Nat) (l:List Value):Prop:=∃ t,w.heap[b]? =some (.cells l.toArray t (0,0))
theorem Rec.lt {w:World} {b:Nat} {l:List Value} (h:Rec w b l):b<w.heap.size:=by
 obtain⟨t,h⟩:=h;exact(aT.1 h).1
theorem Rec.G {w A:World} {b:Nat} {l:List Value} (h:Rec w b l) (g:G w A):Rec A b l:=by
 have hb:=h.lt;obtain⟨t,h⟩:=h;obtain⟨-,-,-,-,g5⟩:=g;exact⟨t,(g5 b hb).trans h⟩
theorem bs:type_of% @Rec.G:= @Rec.G
theorem Rec.new (w:World) (l:List Value) (t:TypeId):Rec (w.alloc (.cells l.toArray t)) w.heap.size l:=⟨t,by simp only[World.alloc];exact cQ⟩
theorem Rec.new2 (w:World) (x y:Value) (t:TypeId):Rec (w.alloc (.cells #[x,y] t)) w.heap.size [x,y]:=Rec.new w [x,y] t
theorem Rec.new3 (w:World) (x y z:Value) (t:TypeId):Rec (w.alloc (.cells #[x,y,z] t)) w.heap.size [x,y,z]:=Rec.new w [x,y,z] t
/-- Blocks laid one behind the other. -/
theorem eD (w:World) (a:List Value) (A:TypeId):∃ w0,w.alloc (.cells a.toArray A)=w0∧Go.Proofs.YtfnkkkcojnffdaaGreatDoor.G w w0∧w0.heap.size=w.heap.size+1∧Hid (Rec w0 w.heap.size a):=⟨_,rfl,(af w).alloc _,by simp,Rec.new w a A⟩
theorem fW (w:World) (a b:List Value) (A B:TypeId):∃ w0,(w.alloc (.cells a.toArray A)).alloc (.cells b.toArray B)=w0∧Go.Proofs.YtfnkkkcojnffdaaGreatDoor.G w w0∧w0.heap.size=w.heap.size+2∧Hid (Rec w0 w.heap.size a)∧Hid (Rec w0 (w.heap.size+1) b):=by
 obtain⟨F,C,g1,J,E⟩:=eD w a A;obtain⟨I,D,g2,z2,r⟩:=eD F b B;rw[C];exact⟨I,D,aa g1 g2,by omega,bs E.out g2,by rw[← J];exact r⟩
theorem mg (w:World) (a b c:List Value) (A B C:TypeId):∃ w0,((w.alloc (.cells a.toArray A)).alloc (.cells b.toArray B)).alloc (.cells c.toArray C)=w0∧Go.Proofs.YtfnkkkcojnffdaaGreatDoor.G w w0∧w0.heap.size=w.heap.size+3∧Hid (Rec w0 w.heap.size a)∧Hid (Rec w0 (w.heap.size+1) b)∧Hid (Rec w0 (w.heap.size+2) c):=by
 obtain⟨J,D,g1,L,F,I⟩:=fW w a b A B;obtain⟨K,E,g2,z2,r⟩:=eD J c C;rw[D];exact⟨K,E,aa g1 g2,by omega,bs F.out g2,bs I.out g2,by rw[← L];exact r⟩
theorem Rec.cell {w:World} {b:Nat} {l:List Value} (h:Rec w b l) (i:Nat):w.cell? ⟨b,i,none⟩=l[i]? :=by
 obtain⟨t,h⟩:=h;simp [World.cell?,h]
theorem Rec.frozen {w:World} {b:Nat} {l:List Value} (h:Rec w b l) (i:Nat):w.frozen? ⟨b,i,none⟩=false:=by
 obtain⟨t,h⟩:=h;simp [World.frozen?,h]
/-- A pointer to a new block. -/
def NewRec (w0 w:World) (v:Value) (l:List Value):Prop:=∃ b,v= .pointer (some ⟨b,0,none⟩)∧w0.heap.size≤b∧Rec w b l
theorem NewRec.G {w0 w A:World} {v:Value} {l:List Value} (h:NewRec w0 w v l) (g:G w A):NewRec w0 A v l:=by
 obtain⟨b,e,hb,B⟩:=h;exact⟨b,e,hb,B.G g⟩
theorem Rec.f1 {w:World} {b:Nat} {x:Value} (h:Rec w b [x]):w.cell? ⟨b,0,none⟩=some x∧w.frozen? ⟨b,0,none⟩=false:=⟨h.cell 0,h.frozen 0⟩
theorem Rec.f2 {w:World} {b:Nat} {x y:Value} (h:Rec w b [x,y]):w.cell? ⟨b,0,none⟩=some x∧w.cell? ⟨b,1,none⟩=some y∧w.frozen? ⟨b,0,none⟩=false∧w.frozen? ⟨b,1,none⟩=false:=
 ⟨h.cell 0,h.cell 1,h.frozen 0,h.frozen 1⟩
theorem Rec.f3 {w:World} {b:Nat} {x y z:Value} (h:Rec w b [x,y,z]):w.cell? ⟨b,0,none⟩=some x∧w.cell? ⟨b,1,none⟩=some y∧w.cell? ⟨b,2,none⟩=some z∧w.frozen? ⟨b,0,none⟩=false∧w.frozen? ⟨b,1,none⟩=false∧w.frozen? ⟨b,2,none⟩=false:=
 ⟨h.cell 0,h.cell 1,h.cell 2,h.frozen 0,h.frozen 1,h.frozen 2⟩
theorem Rec.set {w:World} {b:Nat} {l:List Value} (h:Rec w b l) (i:Nat) (x:Value):Rec (w.setCell ⟨b,i,none⟩ x) b (l.set i x):=by
 obtain⟨t,h⟩:=h;refine⟨t,?_⟩;simp only[World.setCell,da,if_true,h,cq];simp
theorem Rec.oth {w:World} {b:Nat} {l:List Value} (h:Rec w b l) {p:Addr} (x:Value) (A:p.block≠b):Rec (w.setCell p x) b l:=by
 obtain⟨t,h⟩:=h;refine⟨t,?_⟩;simp only[World.setCell,da,if_neg A];exact h
theorem Rec.set2 {w:World} {b:Nat} {x y x' y':Value} (h:Rec w b [x,y]):Rec ((w.setCell ⟨b,0,none⟩ x').setCell ⟨b,1,none⟩ y') b [x',y']:=(h.set 0 x').set 1 y'
theorem Rec.set3 {w:World} {b:Nat} {x y z x' y' A:Value} (h:Rec w b [x,y,z]):Rec (((w.setCell ⟨b,0,none⟩ x').setCell ⟨b,1,none⟩ y').setCell ⟨b,2,none⟩ A) b [x',y',A]:=((h.set 0 x').set 1 y').set 2 A
theorem Rec.g1 {w0 w:World} {b:Nat} {u:Value} (g:Go.Proofs.YtfnkkkcojnffdaaGreatDoor.G w0 w) (h:w0.heap.size≤b):Go.Proofs.YtfnkkkcojnffdaaGreatDoor.G w0 (w.setCell ⟨b,0,none⟩ u):=g.setCell (p:=⟨b,0,none⟩) h _
theorem Rec.g2 {w0 w:World} {b:Nat} {u v:Value} (g:Go.Proofs.YtfnkkkcojnffdaaGreatDoor.G w0 w) (h:w0.heap.size≤b):Go.Proofs.YtfnkkkcojnffdaaGreatDoor.G w0 ((w.setCell ⟨b,0,none⟩ u).setCell ⟨b,1,none⟩ v):=(Rec.g1 g h).setCell (p:=⟨b,1,none⟩) h _
theorem Rec.g3 {w0 w:World} {b:Nat} {u v x:Value} (g:Go.Proofs.YtfnkkkcojnffdaaGreatDoor.G w0 w) (h:w0.heap.size≤b):Go.Proofs.YtfnkkkcojnffdaaGreatDoor.G w0 (((w.setCell ⟨b,0,none⟩ u).setCell ⟨b,1,none⟩ v).setCell ⟨b,2,none⟩ x):=(Rec.g2 g h).setCell (p:=⟨b,2,none⟩) h _
theorem Rec.h1 {w0 w:World} {b:Nat} {u:Value} (_:Rec (w.setCell ⟨b,0,none⟩ u) b [u]) (g:Go.Proofs.YtfnkkkcojnffdaaGreatDoor.G w0 w) (h:w0.heap.size≤b):Go.Proofs.YtfnkkkcojnffdaaGreatDoor.G w0 (w.setCell ⟨b,0,none⟩ u):=Rec.g1 g h
theorem Rec.h2 {w0 w:World} {b:Nat} {u v:Value} (_:Rec ((w.setCell ⟨b,0,none⟩ u).setCell ⟨b,1,none⟩ v) b [u,v]) (g:Go.Proofs.YtfnkkkcojnffdaaGreatDoor.G w0 w) (h:w0.heap.size≤b):Go.Proofs.YtfnkkkcojnffdaaGreatDoor.G w0 ((w.setCell ⟨b,0,none⟩ u).setCell ⟨b,1,none⟩ v):=Rec.g2 g h
theorem Rec.h3 {w0 w:World} {b:Nat} {u v x:Value} (_:Rec (((w.setCell ⟨b,0,none⟩ u).setCell ⟨b,1,none⟩ v).setCell ⟨b,2,none⟩ x) b [u,v,x]) (g:Go.Proofs.YtfnkkkcojnffdaaGreatDoor.G w0 w) (h:w0.heap.size≤b):Go.Proofs.YtfnkkkcojnffdaaGreatDoor.G w0 (((w.setCell ⟨b,0,none⟩ u).setCell ⟨b,1,none⟩ v).setCell ⟨b,2,none⟩ x):=Rec.g3 g h
end Go.Proofs.YtfnkkkcojnffdaaGreatDoor
namespace Go.Proofs.YtfnkkkcojnffdaaGreatDoor
open Go.RowKit
section
variable {P:Program} {ops:Array Oper} {md:Region.Mode} {Q:Exit→Act→World→Prop}
def EachesD (P:Program) (md:Region.Mode) (ops:Array Oper) (done:Array Bool) (R:List Kind) (w0:World) (B:List Value) (A:Act):Nat→List Oper→List Kind→Prop
 |i,o::l,k::ks=>(done.getD i false=false→Each P md ops R w0 B A i o k)∧EachesD P md ops done R w0 B A (i+1) l ks
 |_,_,_=>True
theorem EachesD.get {done:Array Bool} {R:List Kind} {w0:World} {C:List Value} {A:Act}:∀ {l:List Oper} {B:List Kind} {n:Nat},EachesD P md ops done R w0 C A n l B→∀ {j o k},l[j]? =some o→B[j]? =some k→done.getD (n+j) false=false→Each P md ops R w0 C A (n+j) o k:=by
 intro l
 induction l with
 |nil=>intro B n _ j o k h;simp at h
 |cons o l D=>
  intro B n h j F E h1 h2 h3;cases B with
  |nil=>simp at h2
  |cons k B=>
   cases j with
   |zero=>
    simp only[bU,cm] at h1 h2;subst h1;subst h2;exact h.1 h3
   |succ j=>
    have:=D h.2 (by simpa using h1) (by simpa using h2) (by rw[show n+1+j=n+(j+1) from by omega];exact h3)
    rwa[show n+(j+1)=n+1+j from by omega]
theorem EachesD.nil {done:Array Bool} {R:List Kind} {w0:World} {B:List Value} {A:Act} {i:Nat} {l:List Oper}:EachesD P md ops done R w0 B A i l []:=by cases l<;>trivial
theorem EachesD.cons {done:Array Bool} {R:List Kind} {w0:World} {B:List Value} {A:Act} {i:Nat} {l L:List Oper} {o:Oper} {k:Kind} {C:List Kind} (e:l=o::L) (h:Each P md ops R w0 B A i o k) (h2:EachesD P md ops done R w0 B A (i+1) L C):EachesD P md ops done R w0 B A i l (k::C):=by
 subst e;exact⟨fun _=>h,h2⟩
theorem EachesD.skip {done:Array Bool} {R:List Kind} {w0:World} {C:List Value} {A:Act} {i:Nat} {l L:List Oper} {o:Oper} {k:Kind} {B:List Kind} (e:l=o::L) (h:done.getD i false=true) (h2:EachesD P md ops done R w0 C A (i+1) L B):EachesD P md ops done R w0 C A i l (k::B):=by
 subst e;exact⟨fun h3=>by(rw[h] at h3;cases h3),h2⟩
end
end Go.Proofs.YtfnkkkcojnffdaaGreatDoor
namespace Go.Proofs.YtfnkkkcojnffdaaGreatDoor.RN
open Go.RowKit
/-- What the value of an operation is: a given one; or one of a kind, in the world behind it and in all later ones. -/
inductive Kind where
 |is (c:Value)
 |any (p:Value→World→Prop)
 |fresh (p:Value→World→Prop)
def Kind.Held:Kind→Value→World→Prop
 | .is c,v,_=>v=c
 | .any p,v,w=>p v w
 | .fresh p,v,w=>p v w∧∃ b,v= .pointer (some ⟨b,0,none⟩)∧b<w.heap.size
/-- The same behind the operation: a block that is new has not been there ahead of it. -/
def Kind.Holds:Kind→Value→World→World→Prop
 | .is c,v,_,_=>v=c
 | .any p,v,_,w'=>p v w'
 | .fresh p,v,w,w'=>p v w'∧∃ b,v= .pointer (some ⟨b,0,none⟩)∧w.heap.size≤b∧b<w'.heap.size
theorem Kind.Holds.held {k:Kind} {v:Value} {w A:World} (h:k.Holds v w A):k.Held v A:=by
 cases k with
 |is c=>exact h
 |any p=>exact h
 |fresh p=>obtain⟨h1,b,e,-,h3⟩:=h;exact⟨h1,b,e,h3⟩
def Kind.Fresh:Kind→Prop
 | .fresh _=>True
 |_=>False
def Kind.pick:Kind→Value→Value
 | .is c,_=>c
 | .any _,v=>v
 | .fresh _,v=>v
def Kind.Stays:Kind→Prop
 | .is _=>True
 | .any p=>jU p
 | .fresh p=>jU p
theorem Kind.Stays.held {k:Kind} (h:k.Stays) {v:Value} {w A:World} (g:G w A) (hv:k.Held v w):k.Held v A:=by
 cases k with
 |is c=>exact hv
 |any p=>exact h v w A g hv
 |fresh p=>
  obtain⟨h1,b,e,h2⟩:=hv;exact⟨h v w A g h1,b,e,ad h2 g.size⟩
def eV:List Kind→Prop
 |[]=>True
 | .is _::l=>eV l
 | .any p::l=>jU p∧eV l
 | .fresh p::l=>jU p∧eV l
theorem iP:∀ {l:List Kind},eV l→∀ k∈l,k.Stays:=by
 intro l
 induction l with
 |nil=>intro _ k A;cases A
 |cons c l B=>
  intro h k A;cases c with
  |is c=>
   rcases bC.1 A with rfl|A
   ·trivial
   ·exact B h k A
  |any p=>
   rcases bC.1 A with rfl|A
   ·exact h.1
   ·exact B h.2 k A
  |fresh p=>
   rcases bC.1 A with rfl|A
   ·exact h.1
   ·exact B h.2 k A
/-- Letters for what isn't given. -/
def Letters:List Kind→(List Value→Prop)→Prop
 |[],T=>T []
 | .is c::l,T=>Letters l fun A=>T (c::A)
 | .any _::l,T=>∀ v,Letters l fun A=>T (v::A)
 | .fresh _::l,T=>∀ v,Letters l fun A=>T (v::A)
theorem Letters.get:∀ {l:List Kind} {T:List Value→Prop},Letters l T→∀ f:Nat→Value,T (l.zipIdx.map fun p=>p.1.pick (f p.2)):=by
 have main:∀ (l:List Kind) (T:List Value→Prop) (n:Nat),Letters l T→∀ f:Nat→Value,T ((l.zipIdx n).map fun p=>p.1.pick (f p.2)):=by
  intro l
  induction l with
  |nil=>intro T n h f;exact h
  |cons k l A=>
   intro T n h f;cases k with
   |is c=>exact A _ (n+1) h f
   |any p=>exact A _ (n+1) (h (f n)) f
   |fresh p=>exact A _ (n+1) (h (f n)) f
 exact fun {l T} h f=>main l T 0 h f
section
variable {P:Program} {ops:Array Oper} {md:Region.Mode} {Q:Exit→Act→World→Prop}
/-- What is known of what i waits for. -/
def Deps (md:Region.Mode) (ops:Array Oper) (i:Nat) (w:World):Nat→List Kind→List Value→Prop
 |j,.any p::l,v::vs=>(waits md ops i j=true→p v w)∧Deps md ops i w (j+1) l vs
 |j,.fresh p::l,v::vs=>(waits md ops i j=true→p v w)∧Deps md ops i w (j+1) l vs
 |j,.is _::l,_::vs=>Deps md ops i w (j+1) l vs
 |_,_,_=>True
theorem kl {i:Nat} {w:World} {f:Nat→Value}:∀ {l:List Kind} {n:Nat},(∀ (j:Nat) (k:Kind),l[j]? =some k→waits md ops i (n+j)=true→k.Held (f (n+j)) w)→Deps md ops i w n l ((l.zipIdx n).map fun p=>p.1.pick (f p.2)):=by
 intro l
 induction l with
 |nil=>intro n _;trivial
 |cons k l D=>
  intro n h;have B:=D (n:=n+1) (fun j k C A=>by
   have:=h (j+1) k (by simpa using C) (by rw[← A];congr 1;omega)
   rwa[show n+1+j=n+(j+1) from by omega])
  cases k with
  |is c=>exact B
  |any p=>exact⟨fun A=>h 0 _ rfl A,B⟩
  |fresh p=>exact⟨fun A=>(h 0 _ rfl A).1,B⟩
/-- What is known behind them all. -/
def Helds (w:World):List Kind→List Value→Prop
 | .any p::l,v::vs=>p v w∧Helds w l vs
 | .fresh p::l,v::vs=>p v w∧Helds w l vs
 | .is _::l,_::vs=>Helds w l vs
 |_,_=>True
theorem jr {w:World} {f:Nat→Value}:∀ {l:List Kind} {n:Nat},(∀ (j:Nat) (k:Kind),l[j]? =some k→k.Held (f (n+j)) w)→Helds w l ((l.zipIdx n).map fun p=>p.1.pick (f p.2)):=by
 intro l
 induction l with
 |nil=>intro n _;trivial
 |cons k l C=>
  intro n h;have A:=C (n:=n+1) (fun j k B=>by
   have:=h (j+1) k (by simpa using B)
   rwa[show n+1+j=n+(j+1) from by omega])
  cases k with
  |is c=>exact A
  |any p=>exact⟨h 0 _ rfl,A⟩
  |fresh p=>exact⟨(h 0 _ rfl).1,A⟩
/-- New blocks are none of each other. -/
def Apart (R:List Kind) (B:List Value):Prop:=∀ (i j:Nat) (k A:Kind) (u v:Value),i≠j→R[i]? =some k→R[j]? =some A→k.Fresh→A.Fresh→B[i]? =some u→B[j]? =some v→u≠v
/-- What is to be shown of operation i. -/
def Each (P:Program) (md:Region.Mode) (ops:Array Oper) (R:List Kind) (w0:World) (D:List Value) (A:Act) (i:Nat) (o:Oper) (k:Kind):Prop:=
 ∀ w,G w0 w→Deps md ops i w 0 R D→∀ K:Act→World→Prop,Hid (∀ C B,(∃ v,C=A.put o.dst v∧G w B∧k.Holds v w B)→K C B)→
  if Region.wanted o (yielded ops A.tmps)=true then Oper.wp P o A w K noQ else K (A.put o.dst undef) w
def Eaches (P:Program) (md:Region.Mode) (ops:Array Oper) (R:List Kind) (w0:World) (B:List Value) (A:Act):Nat→List Oper→List Kind→Prop
 |i,o::l,k::ks=>Each P md ops R w0 B A i o k∧Eaches P md ops R w0 B A (i+1) l ks
 |_,_,_=>True
theorem Eaches.get {R:List Kind} {w0:World} {C:List Value} {A:Act}:∀ {l:List Oper} {B:List Kind} {n:Nat},Eaches P md ops R w0 C A n l B→∀ {j o k},l[j]? =some o→B[j]? =some k→Each P md ops R w0 C A (n+j) o k:=by
 intro l
 induction l with
 |nil=>intro B n _ j o k h;simp at h
 |cons o l D=>
  intro B n h j F E h1 h2;cases B with
  |nil=>simp at h2
  |cons k B=>
   cases j with
   |zero=>
    simp only[bU,cm] at h1 h2;subst h1;subst h2;exact h.1
   |succ j=>
    have:=D h.2 (by simpa using h1) (by simpa using h2)
    rwa[show n+(j+1)=n+1+j from by omega]
theorem ko {R:List Kind} {np:Nat} {a:Act} {w0:World} (ca:fw md ops np=true) (hR:R.length=np) (ek:∀ k∈R,k.Stays)
  (H:∀ f:Nat→Value,Eaches P md ops R w0 (R.zipIdx.map fun p=>p.1.pick (f p.2)) (laid ops (fun i=>((R[i]?).map (·.pick (f i))).getD undef) (fun _=>true) a np) 0 (ops.toList.take np) R)
  {fuel0:Nat} (cc:∀ (f:Nat→Value) w,G w0 w→(∀ (j:Nat) (k:Kind),R[j]? =some k→k.Held (f j) w)→(∀ (i j:Nat) (k Y:Kind),i≠j→R[i]? =some k→R[j]? =some Y→k.Fresh→Y.Fresh→f i≠f j)→∀ listed:Array Bool,listed.size=ops.size→(∀ j,j<np→listed.getD j false=true)→(∀ j,np≤j→listed.getD j false=false)→
   wpAny P md ops Q fuel0 listed (laid ops f (fun _=>true) a np) w):
  ∀ (m:Nat) (listed:Array Bool) (f:Nat→Value) (w:World),listed.size=ops.size→Closed md ops listed→(∀ j,np≤j→listed.getD j false=false)→
   ((List.range np).countP fun j=> !listed.getD j false)=m→G w0 w→(∀ (j:Nat) (k:Kind),R[j]? =some k→listed.getD j false=true→k.Held (f j) w)→(∀ (i j:Nat) (k Y:Kind),i≠j→R[i]? =some k→R[j]? =some Y→k.Fresh→Y.Fresh→listed.getD i false=true→listed.getD j false=true→f i≠f j)→
   wpAny P md ops Q (fuel0+m) listed (laid ops f (fun j=>listed.getD j false) a np) w:=by
 unfold fw at ca;simp only[br,cw,beq_iff_eq,decide_eq_true_eq] at ca;obtain⟨⟨⟨⟨⟨bq,fv⟩,cz⟩,am⟩,K⟩,W⟩:=ca;have L:∀ i j,i<np→j<np→j≠i→∀ d,eK ops i=some d→eK ops j≠some d:=by
  intro i j hi D E d h1 h2;simp only[b9,aO,cw,beq_iff_eq,bne_iff_ne,ne_eq] at am;rcases am i hi j D with (h|h)|h
  ·exact E h.symm
  ·rw[h1] at h;simp at h
  ·exact h (by rw[h1,h2])
 have al:∀ i j o t,i<np→j<np→ops[i]? =some o→eK ops j=some t→t∈o.looksAt ops→waits md ops i j=true:=by
  intro i j o t hi D F hd ht;simp only[b9,aO] at W;have h1:=W i hi;rw[F] at h1;simp only[b9,aO] at h1;have h2:=h1 j D;rw[hd] at h2;simpa [ht] using h2
 intro m
 induction m with
 |zero=>
  intro listed f w cb hc bu hm hG hh ap;have C:∀ j,j<np→listed.getD j false=true:=by
   intro j D;rw[List.countP_eq_zero] at hm;have:=hm j (aO.2 D);simpa using this
  have e:laid ops f (fun j=>listed.getD j false) a np=laid ops f (fun _=>true) a np:=eZ a np fun j D=>⟨C j D,fun _=>rfl⟩;rw[e];exact cc f w hG (fun j k U=>hh j k U (C j (by rw[← hR];exact(aQ.1 U).1))) (fun i j k Y dq h1 h2 h3 h4=>ap i j k Y dq h1 h2 h3 h4 (C i (by rw[← hR];exact(aQ.1 h1).1)) (C j (by rw[← hR];exact(aQ.1 h2).1))) listed cb C bu
 |succ m ih=>
  intro listed f w cb hc bu hm hG hh ap;obtain⟨i0,ce,dk⟩:∃ i,i<np∧listed.getD i false=false:=by
   have:0<(List.range np).countP fun j=> !listed.getD j false:=by omega
   rw[List.countP_pos_iff] at this;obtain⟨j,h1,h2⟩:=this;exact⟨j,aO.1 h1,by simpa using h2⟩
  -- the least one that is not listed may come up
  have cr:∀ j,j∈Region.ready md ops listed→j<np:=by
   intro j D;obtain⟨-,o,F,-⟩:=mem_ready.1 D;have fs:j<ops.size:=(aT.1 F).1;rcases bq with h|h
   ·omega
   ·exact gq hc h ce dk D
  refine⟨fun h0=> ?_,fun i hi=> ?_⟩
  ·exfalso;obtain⟨i,hi,hu,cn⟩:=fP ce dk;have ci:i<ops.size:=by omega
   have F:ops[i]? =some ops[i]:=cJ ci;have ao:i∈Region.ready md ops listed:=mem_ready.2 ⟨by simp only[Array.getD_eq_getD_getElem?,cJ (show i<listed.size by omega),di] at hu ⊢;exact hu,ops[i],F,fun e he hb=>by
    simp only[b9,aO] at K;have h1:=K i hi;rw[F] at h1;simp only[dy] at h1;have h2:=h1 e he;simp only[hb,cP,Bool.false_or,decide_eq_true_eq] at h2;exact cn _ h2⟩
   rw[h0] at ao;cases ao
  ·have M:=cr i hi;obtain⟨ds,o,F,C⟩:=mem_ready.1 hi;have dl:=eL ds;have ci:i<ops.size:=by omega
   obtain⟨k,U⟩:∃ k,R[i]? =some k:=⟨R[i]'(by omega),aB dT⟩;have hE:=(H f).get (j:=i) (o:=o) (k:=k) (by rw[cU,if_pos M];simpa using F) U;rw[az] at hE;have hD:Deps md ops i w 0 R (R.zipIdx.map fun p=>p.1.pick (f p.2)):=kl (n:=0) fun j k U hw=>by
    rw[az] at hw ⊢;exact hh j k U (eG hi hw)
   have ea:∀ (j:Nat) (k:Kind),R[j]? =some k→listed.getD j false=true→k.pick (f j)=f j:=fun j k U hl=>by
    have:=hh j k U hl;cases k with
    |is c=>exact this.symm
    |any p=>rfl
    |fresh p=>rfl
   obtain⟨A,hA⟩:∃ A,A=laid ops (fun i=>((R[i]?).map (·.pick (f i))).getD undef) (fun _=>true) a np:=⟨_,rfl⟩;rw[← hA] at hE;have an:∀ t,t∈o.looksAt ops→A.tmps[t]? =(laid ops f (fun j=>listed.getD j false) a np).tmps[t]? :=by
    intro t ht;have e1:laid ops f (fun j=>listed.getD j false) a np=laid ops (fun i=>((R[i]?).map (·.pick (f i))).getD undef) (fun j=>listed.getD j false) a np:=eZ a np fun j D=>⟨rfl,fun hl=>by
     have cl:R[j]? =some (R[j]'(by omega)):=aB dT;rw[cl];simp only[cq,di];exact(ea j _ cl hl).symm⟩
    rw[e1,hA];refine js a np (fun j D hd=> ?_) (fun j j' D dr h1 h2=> ?_)
    ·exact(eG hi (al i j o t M D F hd ht)).symm
    ·by_cases O:j'=j
     ·exact O.symm
     ·exact absurd h2 (L j j' D dr O t h1)
   have cx:A.tmps.size=(laid ops f (fun j=>listed.getD j false) a np).tmps.size:=by rw[hA,fA,fA]
   have hex:execOp (laid ops f (fun j=>listed.getD j false) a np).eval o=execOp A.eval o:=by
    refine execOp_congr o (fun cs b=>Region.noSelect_spec cz i o cs b F) fun x hx=> ?_;cases x with
    |tmp t=>
     have:=an t (ck _ (List.mem_filterMap.2 ⟨.tmp t,by simpa using hx,rfl⟩));simp [Act.eval,this]
    |_=>rfl
   have em:Region.wanted o (yielded ops (laid ops f (fun j=>listed.getD j false) a np).tmps)=Region.wanted o (yielded ops A.tmps):=by
    unfold Region.wanted;cases hg:o.guard with
    |none=>rfl
    |some gw=>
     obtain⟨g,want⟩:=gw;have:yielded ops (laid ops f (fun j=>listed.getD j false) a np).tmps g=yielded ops A.tmps g:=by
      unfold yielded;cases ht:(ops[g]?).bind (·.dst) with
      |none=>rfl
      |some t=>
       have h1:=an t (by simp [Oper.looksAt,hg,ht]);simp [h1]
     simp only[this]
   have X:∀ v I,(G w I∧k.Holds v w I)→wpAny P md ops Q (fuel0+m) (listed.setIfInBounds i true) ((laid ops f (fun j=>listed.getD j false) a np).put o.dst v) I:=by
    rintro v I ⟨g,hv⟩;have e1:o.dst=eK ops i:=by simp [eK,F]
    rw[e1,← jt a v dl np M (fun j D E=>L i j M D E)];have e2:(fun j=>if j=i then true else listed.getD j false)=fun j=>(listed.setIfInBounds i true).getD j false:=by
     funext j
     by_cases B:j=i
     ·subst B;simp;omega
     ·rw[getD_set_ne false (bk B),if_neg B]
    rw[e2];refine ih _ _ I (by simpa using cb) (hc.set hi) (fun j D=> ?_) ?_ (hG.trans g) (fun j Y Z hl=> ?_) (fun j j' k1 k2 O s y bi bl bv bz=> ?_)
    ·rw[getD_set_ne false dT];exact bu j D
    ·have h5:=iF (l:=fun j=>listed.getD j false) (m:=m) (np:=np) M dl hm;have e3:(fun j=> !(if j=i then true else listed.getD j false))=fun j=> !(listed.setIfInBounds i true).getD j false:=by
      funext j
      exact congrArg (fun b=> !b) (congrFun e2 j)
     rw[← e3];exact h5
    ·by_cases B:j=i
     ·subst B;rw[U] at Z;cases Z;simpa using hv.held
     ·rw[getD_set_ne false (bk B)] at hl;have eb:Y∈R:=bH Z;simpa [B] using (ek Y eb).held g (hh j Y Z hl)
    ·have old:∀ (q:Nat) (k3:Kind),R[q]? =some k3→k3.Fresh→q≠i→(listed.setIfInBounds i true).getD q false=true→f q≠v∨¬ k.Fresh:=by
      intro q k3 hq cd ec hl;rw[getD_set_ne false (bk ec)] at hl;have h1:=hh q k3 hq hl;by_cases bn:k.Fresh
      ·left;cases k with
       |is c=>exact bn.elim
       |any p=>exact bn.elim
       |fresh p=>
        cases k3 with
        |is c=>exact cd.elim
        |any p=>exact cd.elim
        |fresh p3=>
         obtain⟨-,b,e,hb,-⟩:=hv;obtain⟨-,b',e',ep⟩:=h1;intro h;rw[e,e'] at h;injection h with h;injection h with h;injection h with h;omega
      ·exact Or.inr bn
     by_cases B:j=i
     ·subst B;have E:j'≠j:=fun h=>O h.symm;rw[U] at s;cases s;have h2:=(old j' k2 y bl E bz).resolve_right (fun h=>h bi);simp only[if_true,E,if_false];exact h2.symm
     ·by_cases N:j'=i
      ·subst N;rw[U] at y;cases y;have h2:=(old j k1 s bi B bv).resolve_right (fun h=>h bl);simp only[if_true,B,if_false];exact h2
      ·rw[getD_set_ne false (bk B)] at bv;rw[getD_set_ne false (bk N)] at bz;simp only[B,N,if_false];exact ap j j' k1 k2 O s y bi bl bv bz
   have J:=hE w hG hD (fun a' I=>∃ v,a'=A.put o.dst v∧G w I∧k.Holds v w I) (fun a' I h=>h);unfold wpOp;rw[F];simp only[em];split
   ·rename_i hw
    simp only[hw,if_true] at J;left;unfold Oper.wp at J ⊢;rw[hex];exact iR (H:=fun v I=>G w I∧k.Holds v w I) cx J X
   ·rename_i hw
    simp only[hw,aE,if_false] at J;obtain⟨v,h1,h2⟩:=J;rw[jd cx h1];exact X v w h2
/-- What is to be shown: of each operation, and from behind them all on. -/
def gY (P:Program) (ops:Array Oper) (Q:Exit→Act→World→Prop) (np m:Nat) (E:Array Bool) (R:List Kind) (D:List (Option Tmp)) (a:Act) (w:World) (B:List Value):Prop:=
 ∀ A,A=eY D B a→Eaches P .any ops R w B A 0 (ops.toList.take np) R∧
   ∀ C,G w C→Helds C R B→Apart R B→wpAny P .any ops Q m E A C
/-- A region that draws its order: its first np operations, each of which leaves standing what was there, once each; then what is behind the gate. -/
theorem iZ {id:Nat} {a:Act} {w:World} (np m:Nat) (s:Array Bool) (R:List Kind) (J:List (Option Tmp)) (hm:P.follows .mixedOrders=true) (C:fw .any ops np=true) (hR:R.length=np) (hd:(ops.toList.take np).map (·.dst)=J) (Z:eV R)
  (al:ops.size=np+m) (U:Array.replicate np true++Array.replicate m false=s) (h:Letters R (gY P ops Q np m s R J a w)):
  (Code.region id ops true).wp P Q a w:=by
 refine wp_region_any hm ?_;have X:np≤ops.size:=by
  unfold fw at C;simp only[br,decide_eq_true_eq] at C;exact C.1.1.1.1.2
 have F:(ops.toList.take np).length=np:=by simp;omega
 have B:∀ f:Nat→Value,eY J (R.zipIdx.map fun p=>p.1.pick (f p.2)) a=laid ops (fun i=>((R[i]?).map (·.pick (f i))).getD undef) (fun _=>true) a np:=by
  intro f;rw[← hd,← kt];have:=iH (ops:=ops) (fun i=>((R[i]?).map (·.pick (f i))).getD undef) a (ops.toList.take np) [] (R.zipIdx.map fun p=>p.1.pick (f p.2)) a
   eO (by
    rw[F];refine List.ext_getElem (by simp [hR]) fun i h1 h2=> ?_;have hi:i<R.length:=by simpa using h1
    simp [hi]) rfl
  simpa [F,Nat.min_eq_left X] using this
 have key:=ko (P:=P) (md:= .any) (ops:=ops) (Q:=Q) (R:=R) (np:=np) (a:=a) (w0:=w) C hR (iP Z) (fun f=>by
   have h1:=(h.get f _ (B f).symm).1;exact h1) (fuel0:=m) (fun f w' g hh L listed d W M=>by
   have hp:∀ (j:Nat) (k:Kind),R[j]? =some k→k.pick (f j)=f j:=fun j k O=>by
    have:=hh j k O;cases k with
    |is c=>exact this.symm
    |any p=>rfl
    |fresh p=>rfl
   have h2:=(h.get f _ (B f).symm).2 w' g (jr (n:=0) (f:=f) fun j k O=>by rw[az];exact hh j k O) (by
    intro i j k o u v N h1 h2 h3 y h5 h6;have key:∀ (q:Nat) (I:Kind) (x:Value),R[q]? =some I→I.Fresh→(R.zipIdx.map fun p=>p.1.pick (f p.2))[q]? =some x→x=f q:=by
     intro q I x hq hf hx;cases I with
     |is c=>exact hf.elim
     |any p=>exact hf.elim
     |fresh p=>
      have Y:q<R.length:=(aQ.1 hq).1;have K:R[q]= .fresh p:=(aQ.1 hq).2;simp [Y,K,Kind.pick] at hx;exact hx.symm
    rw[key i k u h1 h3 h5,key j o v h2 y h6];exact L i j k o N h1 h2 h3 y)
   have K:laid ops f (fun _=>true) a np=laid ops (fun i=>((R[i]?).map (·.pick (f i))).getD undef) (fun _=>true) a np:=eZ a np fun j D=>⟨rfl,fun _=>by
    have E:R[j]? =some (R[j]'(by omega)):=aB dT;rw[E];simp only[cq,di];exact(hp j _ E).symm⟩
   have e2:listed=s:=by
    rw[← U];refine Array.ext (by simp [d];omega) fun j h1 h2=> ?_;have e3:listed[j]=listed.getD j false:=by simp [h1]
    rw[e3];by_cases D:j<np
    ·rw[W j D,Array.getElem_append_left (by simpa using D)];simp
    ·rw[M j dT,Array.getElem_append_right (by simpa using D)];simp
   rw[K,e2];exact h2) np (Array.replicate ops.size false) (fun _=>undef) w.drew eO (fun j k D _=>by
    by_cases A:j<ops.size<;>simp [A] at D) (fun j _=>by by_cases A:j<ops.size<;>simp [A]) (by
    have:∀ n,((List.range n).countP fun j=> !(Array.replicate ops.size false).getD j false)=n:=by
     intro n;rw[List.countP_eq_length.2,List.length_range];intro j _;by_cases A:j<ops.size<;>simp [A]
    exact this np) (af _).drew (fun j k _ D=>by by_cases A:j<ops.size<;>simp [A] at D) (fun i j k o _ _ _ _ _ F _=>by by_cases A:i<ops.size<;>simp [A] at F)
 have e:laid ops (fun _=>undef) (fun j=>(Array.replicate ops.size false).getD j false) a np=a:=by
  have:∀ n,laid ops (fun _=>undef) (fun j=>(Array.replicate ops.size false).getD j false) a n=a:=by
   intro n
   induction n with
   |zero=>rfl
   |succ n ih=>
    have e0:(Array.replicate ops.size false).getD n false=false:=by by_cases A:n<ops.size<;>simp [A]
    simp only[laid,e0,aE,if_false,ih]
  exact this np
 rw[e] at key;rw[show m+np=ops.size from by omega] at key;exact key
theorem Letters.nil {T:List Value→Prop} (h:T []):Letters [] T:=h
theorem Letters.is {c:Value} {l:List Kind} {T:List Value→Prop} (h:Letters l fun A=>T (c::A)):Letters (.is c::l) T:=h
theorem Letters.fresh {p:Value→World→Prop} {l:List Kind} {T:List Value→Prop} (h:∀ v,Letters l fun A=>T (v::A)):Letters (.fresh p::l) T:=h
theorem Letters.any {p:Value→World→Prop} {l:List Kind} {T:List Value→Prop} (h:∀ v,Letters l fun A=>T (v::A)):Letters (.any p::l) T:=h
theorem Eaches.nil {R:List Kind} {w0:World} {B:List Value} {A:Act} {i:Nat} {l:List Oper}:Eaches P md ops R w0 B A i l []:=by cases l<;>trivial
theorem Eaches.cons {R:List Kind} {w0:World} {B:List Value} {A:Act} {i:Nat} {l L:List Oper} {o:Oper} {k:Kind} {C:List Kind} (e:l=o::L) (h:Each P md ops R w0 B A i o k) (h2:Eaches P md ops R w0 B A (i+1) L C):Eaches P md ops R w0 B A i l (k::C):=by
 subst e;exact⟨h,h2⟩
theorem Deps.get {i:Nat} {w:World} {p:Value→World→Prop} {v:Value}:∀ {R:List Kind} {B:List Value} {n:Nat} (j:Nat),Deps md ops i w n R B→R[j]? =some (.any p)→B[j]? =some v→waits md ops i (n+j)=true→p v w:=by
 intro R
 induction R with
 |nil=>intro B n j _ h;simp at h
 |cons k R C=>
  intro B n j h h1 h2 h3;cases B with
  |nil=>simp at h2
  |cons u B=>
   cases j with
   |zero=>
    simp only[bU,cm] at h1 h2;subst h1;subst h2;exact h.1 h3
   |succ j=>
    have A:waits md ops i (n+1+j)=true:=by rw[← h3];congr 1;omega
    cases k with
    |is c=>exact C j h (by simpa using h1) (by simpa using h2) A
    |any q=>exact C j h.2 (by simpa using h1) (by simpa using h2) A
    |fresh q=>exact C j h.2 (by simpa using h1) (by simpa using h2) A
theorem Helds.get {w:World} {p:Value→World→Prop} {v:Value}:∀ {R:List Kind} {A:List Value} (j:Nat),Helds w R A→R[j]? =some (.any p)→A[j]? =some v→p v w:=by
 intro R
 induction R with
 |nil=>intro A j _ h;simp at h
 |cons k R B=>
  intro A j h h1 h2;cases A with
  |nil=>simp at h2
  |cons u A=>
   cases j with
   |zero=>
    simp only[bU,cm] at h1 h2;subst h1;subst h2;exact h.1
   |succ j=>
    cases k with
    |is c=>exact B j h (by simpa using h1) (by simpa using h2)
    |any q=>exact B j h.2 (by simpa using h1) (by simpa using h2)
    |fresh q=>exact B j h.2 (by simpa using h1) (by simpa using h2)
end
end Go.Proofs.YtfnkkkcojnffdaaGreatDoor.RN
namespace Go.Proofs.YtfnkkkcojnffdaaGreatDoor.RV
open Go.RowKit
section
variable {P:Program} {ops:Array Oper} {md:Region.Mode} {Q:Exit→Act→World→Prop}
/-- What is to be shown of operation i: what holds ahead of it holds behind it. -/
def One (P:Program) (md:Region.Mode) (ops:Array Oper) (Inv:(Nat→Bool)→(Nat→Value)→World→Prop) (A:(Nat→Value)→Act) (i:Nat) (o:Oper):Prop:=
 ∀ (L:Nat→Bool) (f:Nat→Value) (w:World),Inv L f w→L i=false→(∀ j,waits md ops i j=true→L j=true)→∀ K:Act→World→Prop,Hid (∀ B C,(∃ v,B=(A f).put o.dst v∧Inv (fun j=>if j=i then true else L j) (fun j=>if j=i then v else f j) C)→K B C)→
  if Region.wanted o (yielded ops (A f).tmps)=true then Oper.wp P o (A f) w K noQ else K ((A f).put o.dst undef) w
def Ones (P:Program) (md:Region.Mode) (ops:Array Oper) (Inv:(Nat→Bool)→(Nat→Value)→World→Prop) (A:(Nat→Value)→Act):Nat→List Oper→Prop
 |i,o::l=>One P md ops Inv A i o∧Ones P md ops Inv A (i+1) l
 |_,[]=>True
theorem Ones.get {Inv:(Nat→Bool)→(Nat→Value)→World→Prop} {A:(Nat→Value)→Act}:∀ {l:List Oper} {n:Nat},Ones P md ops Inv A n l→∀ {j o},l[j]? =some o→One P md ops Inv A (n+j) o:=by
 intro l
 induction l with
 |nil=>intro n _ j o h;simp at h
 |cons o l B=>
  intro n h j C h1;cases j with
  |zero=>
   simp only[bU,cm] at h1;subst h1;exact h.1
  |succ j=>
   have:=B h.2 (by simpa using h1)
   rwa[show n+(j+1)=n+1+j from by omega]
theorem Ones.nil {Inv:(Nat→Bool)→(Nat→Value)→World→Prop} {A:(Nat→Value)→Act} {i:Nat}:Ones P md ops Inv A i []:=trivial
theorem Ones.cons {Inv:(Nat→Bool)→(Nat→Value)→World→Prop} {A:(Nat→Value)→Act} {i:Nat} {l L:List Oper} {o:Oper} (e:l=o::L) (h:One P md ops Inv A i o) (h2:Ones P md ops Inv A (i+1) L):Ones P md ops Inv A i l:=by
 subst e;exact⟨h,h2⟩
theorem q1v {Inv:(Nat→Bool)→(Nat→Value)→World→Prop} {np:Nat} {a:Act} (k:fw md ops np=true)
  (H:∀ (i:Nat) (o:Oper),i<np→ops[i]? =some o→One P md ops Inv (fun f=>laid ops f (fun _=>true) a np) i o)
  {fuel0:Nat} (al:∀ (f:Nat→Value) (L:Nat→Bool) w,Inv L f w→(∀ j,j<np→L j=true)→∀ listed:Array Bool,listed.size=ops.size→(∀ j,j<np→listed.getD j false=true)→(∀ j,np≤j→listed.getD j false=false)→
   wpAny P md ops Q fuel0 listed (laid ops f (fun _=>true) a np) w):
  ∀ (m:Nat) (listed:Array Bool) (f:Nat→Value) (w:World),listed.size=ops.size→Closed md ops listed→(∀ j,np≤j→listed.getD j false=false)→
   ((List.range np).countP fun j=> !listed.getD j false)=m→Inv (fun j=>listed.getD j false) f w→
   wpAny P md ops Q (fuel0+m) listed (laid ops f (fun j=>listed.getD j false) a np) w:=by
 unfold fw at k;simp only[br,cw,beq_iff_eq,decide_eq_true_eq] at k;obtain⟨⟨⟨⟨⟨X,cb⟩,bn⟩,R⟩,F⟩,K⟩:=k;have I:∀ i j,i<np→j<np→j≠i→∀ d,eK ops i=some d→eK ops j≠some d:=by
  intro i j hi B c d h1 h2;simp only[b9,aO,cw,beq_iff_eq,bne_iff_ne,ne_eq] at R;rcases R i hi j B with (h|h)|h
  ·exact c h.symm
  ·rw[h1] at h;simp at h
  ·exact h (by rw[h1,h2])
 have N:∀ i j o t,i<np→j<np→ops[i]? =some o→eK ops j=some t→t∈o.looksAt ops→waits md ops i j=true:=by
  intro i j o t hi B D hd ht;simp only[b9,aO] at K;have h1:=K i hi;rw[D] at h1;simp only[b9,aO] at h1;have h2:=h1 j B;rw[hd] at h2;simpa [ht] using h2
 intro m
 induction m with
 |zero=>
  intro listed f w s hc Y hm hI;have C:∀ j,j<np→listed.getD j false=true:=by
   intro j B;rw[List.countP_eq_zero] at hm;have:=hm j (aO.2 B);simpa using this
  have e:laid ops f (fun j=>listed.getD j false) a np=laid ops f (fun _=>true) a np:=eZ a np fun j B=>⟨C j B,fun _=>rfl⟩;rw[e];exact al f _ w hI C listed s C Y
 |succ m ih=>
  intro listed f w s hc Y hm hI;obtain⟨i0,am,bq⟩:∃ i,i<np∧listed.getD i false=false:=by
   have:0<(List.range np).countP fun j=> !listed.getD j false:=by omega
   rw[List.countP_pos_iff] at this;obtain⟨j,h1,h2⟩:=this;exact⟨j,aO.1 h1,by simpa using h2⟩
  -- the least one that is not listed may come up
  have bi:∀ j,j∈Region.ready md ops listed→j<np:=by
   intro j B;obtain⟨-,o,D,-⟩:=mem_ready.1 B;have ca:j<ops.size:=(aT.1 D).1;rcases X with h|h
   ·omega
   ·exact gq hc h am bq B
  refine⟨fun h0=> ?_,fun i hi=> ?_⟩
  ·exfalso;obtain⟨i,hi,hu,ap⟩:=fP am bq;have an:i<ops.size:=by omega
   have D:ops[i]? =some ops[i]:=cJ an;have W:i∈Region.ready md ops listed:=mem_ready.2 ⟨by simp only[Array.getD_eq_getD_getElem?,cJ (show i<listed.size by omega),di] at hu ⊢;exact hu,ops[i],D,fun e he hb=>by
    simp only[b9,aO] at F;have h1:=F i hi;rw[D] at h1;simp only[dy] at h1;have h2:=h1 e he;simp only[hb,cP,Bool.false_or,decide_eq_true_eq] at h2;exact ap _ h2⟩
   rw[h0] at W;cases W
  ·have J:=bi i hi;obtain⟨bv,o,D,C⟩:=mem_ready.1 hi;have y:=eL bv;have an:i<ops.size:=by omega
   have hE:=H i o J D (fun j=>listed.getD j false) f w hI y (fun j hw=>eG hi hw);obtain⟨A,hA⟩:∃ A,A=laid ops f (fun _=>true) a np:=⟨_,rfl⟩;simp only[← hA] at hE;have U:∀ t,t∈o.looksAt ops→A.tmps[t]? =(laid ops f (fun j=>listed.getD j false) a np).tmps[t]? :=by
    intro t ht;rw[hA];refine js a np (fun j B hd=> ?_) (fun j j' B bu h1 h2=> ?_)
    ·exact(eG hi (N i j o t J B D hd ht)).symm
    ·by_cases ao:j'=j
     ·exact ao.symm
     ·exact absurd h2 (I j j' B bu ao t h1)
   have bl:A.tmps.size=(laid ops f (fun j=>listed.getD j false) a np).tmps.size:=by rw[hA,fA,fA]
   have hex:execOp (laid ops f (fun j=>listed.getD j false) a np).eval o=execOp A.eval o:=by
    refine execOp_congr o (fun cs b=>Region.noSelect_spec bn i o cs b D) fun x hx=> ?_;cases x with
    |tmp t=>
     have:=U t (ck _ (List.mem_filterMap.2 ⟨.tmp t,by simpa using hx,rfl⟩));simp [Act.eval,this]
    |_=>rfl
   have bz:Region.wanted o (yielded ops (laid ops f (fun j=>listed.getD j false) a np).tmps)=Region.wanted o (yielded ops A.tmps):=by
    unfold Region.wanted;cases hg:o.guard with
    |none=>rfl
    |some gw=>
     obtain⟨g,want⟩:=gw;have:yielded ops (laid ops f (fun j=>listed.getD j false) a np).tmps g=yielded ops A.tmps g:=by
      unfold yielded;cases ht:(ops[g]?).bind (·.dst) with
      |none=>rfl
      |some t=>
       have h1:=U t (by simp [Oper.looksAt,hg,ht]);simp [h1]
     simp only[this]
   have M:∀ v O,Inv (fun j=>if j=i then true else listed.getD j false) (fun j=>if j=i then v else f j) O→wpAny P md ops Q (fuel0+m) (listed.setIfInBounds i true) ((laid ops f (fun j=>listed.getD j false) a np).put o.dst v) O:=by
    intro v O hv;have e1:o.dst=eK ops i:=by simp [eK,D]
    rw[e1,← jt a v y np J (fun j B c=>I i j J B c)];have e2:(fun j=>if j=i then true else listed.getD j false)=fun j=>(listed.setIfInBounds i true).getD j false:=by
     funext j
     by_cases Z:j=i
     ·subst Z;simp;omega
     ·rw[getD_set_ne false (bk Z),if_neg Z]
    rw[e2] at hv ⊢;refine ih _ _ O (by simpa using s) (hc.set hi) (fun j B=> ?_) ?_ hv
    ·rw[getD_set_ne false dT];exact Y j B
    ·have h5:=iF (l:=fun j=>listed.getD j false) (m:=m) (np:=np) J y hm;have e3:(fun j=> !(if j=i then true else listed.getD j false))=fun j=> !(listed.setIfInBounds i true).getD j false:=by
      funext j
      exact congrArg (fun b=> !b) (congrFun e2 j)
     rw[← e3];exact h5
   have E:=hE (fun a' O=>∃ v,a'=A.put o.dst v∧Inv (fun j=>if j=i then true else listed.getD j false) (fun j=>if j=i then v else f j) O) (fun a' O h=>h);unfold wpOp;rw[D];simp only[bz];split
   ·rename_i hw
    simp only[hw,if_true] at E;left;unfold Oper.wp at E ⊢;rw[hex];exact iR (H:=fun v O=>Inv (fun j=>if j=i then true else listed.getD j false) (fun j=>if j=i then v else f j) O) bl E M
   ·rename_i hw
    simp only[hw,aE,if_false] at E;obtain⟨v,h1,h2⟩:=E;rw[jd bl h1];exact M v w h2
/-- A region that draws its order, its first np operations: by what holds between them; then what is behind the gate. -/
theorem region_inv {id:Nat} {a:Act} {w:World} (np m:Nat) (U:Array Bool) (J:List (Option Tmp)) (Inv:(Nat→Bool)→(Nat→Value)→World→Prop) (hm:P.follows .mixedOrders=true) (D:fw .any ops np=true) (hd:(ops.toList.take np).map (·.dst)=J)
  (al:ops.size=np+m) (M:Array.replicate np true++Array.replicate m false=U)
  (c:∀ f,Inv (fun _=>false) f w.drew)
  (d:∀ A:(Nat→Value)→Act,(∀ f,A f=eY J ((List.range np).map f) a)→Ones P .any ops Inv A 0 (ops.toList.take np)∧∀ (f:Nat→Value) (L:Nat→Bool) I,Inv L f I→(∀ j,j<np→L j=true)→wpAny P .any ops Q m U (A f) I):
  (Code.region id ops true).wp P Q a w:=by
 obtain⟨A,W⟩:∃ A:(Nat→Value)→Act,∀ f,A f=eY J ((List.range np).map f) a:=⟨fun f=>_,fun f=>rfl⟩;obtain⟨h,E⟩:=d A W;refine wp_region_any hm ?_;have O:np≤ops.size:=by
  unfold fw at D;simp only[br,decide_eq_true_eq] at D;exact D.1.1.1.1.2
 have X:(ops.toList.take np).length=np:=by simp;omega
 have C:(fun f=>laid ops f (fun _=>true) a np)=A:=by
  funext f
  rw[W,← hd,← kt];have:=iH (ops:=ops) f a (ops.toList.take np) [] ((List.range np).map f) a eO (by rw[X];simp) rfl;simpa [X,Nat.min_eq_left O] using this.symm
 have key:=q1v (P:=P) (md:= .any) (ops:=ops) (Q:=Q) (Inv:=Inv) (np:=np) (a:=a) D (fun i o hi ho=>by
   rw[C];have h1:=h.get (j:=i) (o:=o) (by rw[cU,if_pos hi];simpa using ho)
   rwa[az] at h1) (fuel0:=m) (fun f L I s y listed R N K=>by
   have Y:listed=U:=by
    rw[← M];refine Array.ext (by simp [R];omega) fun j h1 h2=> ?_;have Z:listed[j]=listed.getD j false:=by simp [h1]
    rw[Z];by_cases F:j<np
    ·rw[N j F,Array.getElem_append_left (by simpa using F)];simp
    ·rw[K j dT,Array.getElem_append_right (by simpa using F)];simp
   rw[congrFun C f,Y];exact E f L I s y) np (Array.replicate ops.size false) (fun _=>undef) w.drew eO (fun j k F _=>by
    by_cases B:j<ops.size<;>simp [B] at F) (fun j _=>by by_cases B:j<ops.size<;>simp [B]) (by
    have:∀ n,((List.range n).countP fun j=> !(Array.replicate ops.size false).getD j false)=n:=by
     intro n;rw[List.countP_eq_length.2,List.length_range];intro j _;by_cases B:j<ops.size<;>simp [B]
    exact this np) (by
    have:(fun j=>(Array.replicate ops.size false).getD j false)=fun _=>false:=by
     funext j
     by_cases B:j<ops.size<;>simp [B]
    rw[this];exact c _)
 have e:laid ops (fun _=>undef) (fun j=>(Array.replicate ops.size false).getD j false) a np=a:=by
  have:∀ n,laid ops (fun _=>undef) (fun j=>(Array.replicate ops.size false).getD j false) a n=a:=by
   intro n
   induction n with
   |zero=>rfl
   |succ n ih=>
    have e0:(Array.replicate ops.size false).getD n false=false:=by by_cases B:n<ops.size<;>simp [B]
    simp only[laid,e0,aE,if_false,ih]
  exact this np
 rw[e] at key;rw[show m+np=ops.size from by omega] at key;exact key
end
end Go.Proofs.YtfnkkkcojnffdaaGreatDoor.RV
namespace Go.Proofs.YtfnkkkcojnffdaaGreatDoor
theorem ar:type_of% @RV.Ones.cons:= @RV.Ones.cons
end Go.Proofs.YtfnkkkcojnffdaaGreatDoor
