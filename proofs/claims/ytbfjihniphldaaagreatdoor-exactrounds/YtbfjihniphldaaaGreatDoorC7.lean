/- What is proved here: a law of the walk: in a region that draws its order, loads are taken first where all ahead of the last writing call leave standing what they read.
What is proved here: a law of the walk: two operations that may come up, in a region whose loads were taken first.
What is proved here: a law of the walk: a region that draws its order, in which no operation turns what was there: each operation is shown once, for all orders.
What is proved here: records: blocks of a few cells that may be written.
What is proved here: a law of the walk: a region that draws its order, some operations of which have been taken ahead: each of the others up to a gate is shown once, for all orders.
What is proved here: a law of the walk: a region that draws its order, as in the text before, and of the blocks that it makes none is another one.
What is proved here: a law of the walk: a region that draws its order, told by what holds between its operations: each operation is shown once, for all orders. -/
import Derived.Test.YtbfjihniphldaaaGreatDoorC6
import Derived.Deep.RegionHeld
namespace Go.Proofs.YtbfjihniphldaaaGreatDoor
section
variable {P:Program} {ops:Array Oper} {md:Region.Mode} {S:World→Prop} {Q:Exit→Act→World→Prop}
/-- Operation np waits, by way of others, for all before it, and all behind it wait for it. -/
def q1l (md:Region.Mode) (ops:Array Oper) (np:Nat):Bool:=
 (List.range np).all (fun i=>(List.range (np+1)).any fun k=>decide (i<k)&&waits md ops k i)&&
 (List.range ops.size).all (fun j=>decide (j≤np)||(List.range j).any fun k=>decide (np≤k)&&waits md ops j k)
theorem q36 {np:Nat} {listed:Array Bool} (hc:Closed md ops listed) (hch:q1l md ops np=true):∀ d i,np-i=d→i<np→listed.getD i false=false→listed.getD np false=false∧np∉Region.ready md ops listed:=by
 intro d
 induction d using Nat.strongRecOn with
 |ind d ih=>
  intro i hd hi hu;unfold q1l at hch;simp only[Bool.and_eq_true,List.all_eq_true,List.mem_range] at hch;have h1:=hch.1 i hi;simp only[List.any_eq_true,List.mem_range,Bool.and_eq_true,decide_eq_true_eq] at h1;obtain⟨k,hk,hik,hw⟩:=h1;have CZ:listed.getD k false=false:=by
   cases h:listed.getD k false with
   |false=>rfl
   |true=>rw[hc k i h hw] at hu;cases hu
  by_cases hkn:k=np
  ·subst hkn;exact⟨CZ,fun hr=>by rw[q0E hr hw] at hu;cases hu⟩
  ·exact ih (np-k) (by omega) k rfl (by omega) CZ
theorem q3D {np i:Nat} {listed:Array Bool} (hc:Closed md ops listed) (hch:q1l md ops np=true) (hi:i<np) (hu:listed.getD i false=false):
  ∀ j,np≤j→listed.getD j false=false∨ops.size≤j:=by
 intro j
 induction j using Nat.strongRecOn with
 |ind j ih=>
  intro hj;by_cases hjn:j=np
  ·subst hjn;exact Or.inl (q36 hc hch _ i rfl hi hu).1
  ·by_cases hs:ops.size≤j
   ·exact Or.inr hs
   ·have hch':=hch;unfold q1l at hch';simp only[Bool.and_eq_true,List.all_eq_true,List.mem_range] at hch';have h1:=hch'.2 j (by omega);simp only[Bool.or_eq_true,decide_eq_true_eq,List.any_eq_true,List.mem_range,Bool.and_eq_true] at h1;rcases h1 with h1|⟨k,hk,hnk,hw⟩
    ·omega
    ·rcases ih k hk hnk with h2|h2
     ·refine Or.inl ?_;cases h:listed.getD j false with
      |false=>rfl
      |true=>rw[hc j k h hw] at h2;cases h2
     ·omega
theorem q2b {np i j:Nat} {listed:Array Bool} (hc:Closed md ops listed) (hch:q1l md ops np=true) (hi:i<np) (hu:listed.getD i false=false) (hj:j∈Region.ready md ops listed):j<np:=by
 rcases Nat.lt_or_ge j np with h|h
 ·exact h
 ·exfalso;obtain⟨-,o,ho,-⟩:=mem_ready.1 hj;have hjs:j<ops.size:=(Array.getElem?_eq_some_iff.1 ho).1;by_cases hjn:j=np
  ·subst hjn;exact(q36 hc hch _ i rfl hi hu).2 hj
  ·have hch':=hch;unfold q1l at hch';simp only[Bool.and_eq_true,List.all_eq_true,List.mem_range] at hch';have h1:=hch'.2 j hjs;simp only[Bool.or_eq_true,decide_eq_true_eq,List.any_eq_true,List.mem_range,Bool.and_eq_true] at h1;rcases h1 with h1|⟨k,hk,hnk,hw⟩
   ·omega
   ·rcases q3D hc hch hi hu k hnk with h2|h2
    ·rw[q0E hj hw] at h2;cases h2
    ·omega
/-- Whatever order is picked from here on; S holds behind every operation ahead of np. -/
def q0F (P:Program) (md:Region.Mode) (ops:Array Oper) (Q:Exit→Act→World→Prop) (S:World→Prop) (np:Nat):Nat→Array Bool→Act→World→Prop
 |0,listed,a,w=>Region.ready md ops listed=[]∧Q .normal a w
 |fuel+1,listed,a,w=>
  (Region.ready md ops listed=[]→Q .normal a w)∧
  ∀ i∈Region.ready md ops listed,wpOp P ops Q i (fun a' w'=>(np≤i∨S w')∧q0F P md ops Q S np fuel (listed.setIfInBounds i true) a' w') a w
theorem q42 {np:Nat}:∀ (fuel:Nat) (listed:Array Bool) (a:Act) (w:World),q0F P md ops Q S np fuel listed a w→wpAny P md ops Q fuel listed a w
 |0,_,_,_,h=>h
 |fuel+1,_,_,_,h=>⟨h.1,fun i hi=>wpOp_mono (fun a' w' h'=>q42 fuel _ a' w' h'.2) (h.2 i hi)⟩
theorem q56 {np i:Nat} {oi:Oper} {v:Value} (hi:ops[i]? =some oi) (hsel:∀ (j:Nat) (o:Oper) cs b,ops[j]? =some o→o.op≠ .select cs b)
  (hQ:∀ c a w,Q (.panic c) (a.put oi.dst v) w→Q (.panic c) a w) (hch:q1l md ops np=true) (hin:i<np):
  ∀ (fuel:Nat) (listed:Array Bool) (a:Act) (w:World),Closed md ops listed→
   (∀ j oj,ops[j]? =some oj→j≠i→listed.getD j true=false→(∀ e∈oj.after,Region.binds md e=true→e.on≠i)→oi.apart ops oj=true)→
   i∈Region.ready md ops listed→YieldsIf P ops S oi v a→S w→
   q0F P md ops Q S np fuel (listed.setIfInBounds i true) (a.put oi.dst v) w→q0F P md ops Q S np (fuel+1) listed a w:=by
 intro fuel
 induction fuel with
 |zero=>
  intro listed a w _ _ hr hy hS H;refine⟨fun h=>(by rw[h] at hr;cases hr),fun j hj=> ?_⟩;by_cases hji:j=i
  ·subst hji;exact hy.wpOp hi hS ⟨Or.inr hS,H⟩
  ·have:=ready_mono hj hji;rw[H.1] at this;cases this
 |succ fuel ih=>
  intro listed a w hc hfree hr hy hS H;refine⟨fun h=>(by rw[h] at hr;cases hr),fun j hj=> ?_⟩;by_cases hji:j=i
  ·subst hji;exact hy.wpOp hi hS ⟨Or.inr hS,H⟩
  ·have h1:=H.2 j (ready_mono hj hji);obtain⟨hjun,oj,hoj,hall⟩:=mem_ready.1 hj;have hjn:=q2b hc hch hin (q0r (mem_ready.1 hr).1) hj;have hnot:∀ e∈oj.after,Region.binds md e=true→e.on≠i:=fun e he hb heq=>by
    have h1:=hall e he hb;have h0:=(mem_ready.1 hr).1;rw[heq] at h1;rcases Nat.lt_or_ge i listed.size with h'|h'
    ·simp [h'] at h0 h1;rw[h0] at h1;cases h1
    ·simp [Array.getElem?_eq_none h'] at h1
   have h2:=wpOp_putIf hoj (hfree j oj hoj hji hjun hnot) (fun cs b=>hsel i oi cs b hi) (fun cs b=>hsel j oj cs b hoj) hQ hy h1;have hfree':∀ k ok,ops[k]? =some ok→k≠i→(listed.setIfInBounds j true).getD k true=false→
     (∀ e∈ok.after,Region.binds md e=true→e.on≠i)→oi.apart ops ok=true:=fun k ok hk hki hun hno=>by
    refine hfree k ok hk hki ?_ hno;by_cases hjk:j=k
    ·subst hjk;exact hjun
    ·rw[getD_set_ne true hjk] at hun;exact hun
   refine wpOp_mono (fun a' w' h3=> ?_) h2;have hS':S w':=h3.2.1.resolve_left (by omega);refine⟨Or.inr hS',ih (listed.setIfInBounds j true) a' w' (hc.set hj) hfree' (ready_mono hr (Ne.symm hji)) h3.1 hS' ?_⟩;rw[Array.setIfInBounds_comm _ _ hji];exact h3.2.2
/-- An operation that yields in every world that meets S is taken first. -/
theorem q5U {np i:Nat} {oi:Oper} {v:Value} {fuel:Nat} {listed:Array Bool} {a:Act} {w:World} (hi:ops.toList[i]? =some oi)
  (hs:Region.noSelect ops=true) (hf:Region.free md ops listed i=true) (hr:(Region.ready md ops listed).contains i=true)
  (hch:q1l md ops np=true) (hin:decide (i<np)=true) (hc:q2U md ops listed=true) (hw:q2R md ops=true)
  (hQ:∀ c a w,Q (.panic c) (a.put oi.dst v) w→Q (.panic c) a w) (hy:YieldsIf P ops S oi v a) (hS:S w)
  (h:q0F P md ops Q S np fuel (listed.setIfInBounds i true) (a.put oi.dst v) w):q0F P md ops Q S np (fuel+1) listed a w:=
 have hi':ops[i]? =some oi:=by rw[← hi];simp
 q56 hi' (Region.noSelect_spec hs) hQ hch (by simpa using hin) fuel listed a w (q4S hc hw) (Region.free_spec hi' hf) (by simpa using hr) hy hS h
def q9P (md:Region.Mode) (ops:Array Oper) (np i:Nat) (listed:Array Bool):Bool:=
 Region.noSelect ops&&(Region.free md ops listed i&&((Region.ready md ops listed).contains i&&(q1l md ops np&&(decide (i<np)&&(q2U md ops listed&&q2R md ops)))))
/-- The same, what the kernel is to see in one. -/
theorem q02 {np:Nat} (i:Nat) {oi:Oper} {v:Value} {fuel:Nat} {listed:Array Bool} {a:Act} {w:World} (hi:ops.toList[i]? =some oi) (hok:q9P md ops np i listed=true)
  (hQ:∀ c a w,Q (.panic c) (a.put oi.dst v) w→Q (.panic c) a w) (hwn:Region.wanted oi (yielded ops a.tmps)=true) (hy:∀ w,S w→(execOp a.eval oi).run P w= .ok (.value v) w) (hS:S w)
  (h:q0F P md ops Q S np fuel (listed.setIfInBounds i true) (a.put oi.dst v) w):q0F P md ops Q S np (fuel+1) listed a w:=by
 unfold q9P at hok;simp only[Bool.and_eq_true] at hok;obtain⟨h1,h2,h3,h4,h5,h6,h7⟩:=hok;exact q5U hi h1 h2 h3 h4 h5 h6 h7 hQ (Or.inl ⟨hwn,hy⟩) hS h
theorem aput (l:List Value) (d:List Deferred) (t:Nat) (v:Value):Act.put {tmps:=l.toArray,defers:=d} (some t) v={tmps:=(l.set t v).toArray,defers:=d}:=by
 simp only[Act.put,List.setIfInBounds_toArray]
/-- The only operation that may come up. -/
theorem q04 {np i:Nat} {o:Oper} {fuel:Nat} {listed:Array Bool} {a:Act} {w:World} (hr:Region.ready md ops listed=[i]) (ho:ops.toList[i]? =some o)
  (h:∀ K':Act→World→Prop,Shut (∀ a w,(np≤i∨S w)→q0F P md ops Q S np fuel (listed.setIfInBounds i true) a w→K' a w)→if Region.wanted o (yielded ops a.tmps)=true then Oper.wp P o a w K' Q else K' (a.put o.dst undef) w):
  q0F P md ops Q S np (fuel+1) listed a w:=by
 refine⟨fun h0=>(by rw[hr] at h0;cases h0),fun j hj=> ?_⟩;rw[hr] at hj;have e:j=i:=by simpa using hj
 subst e;have ho':ops[j]? =some o:=by rw[← ho];simp
 exact wpOp_step ho' (fun K' hK=>h K' (fun a w hS hW=>hK a w ⟨hS,hW⟩))
/-- All have come up. -/
theorem q0m {np:Nat} {listed:Array Bool} {a:Act} {w:World} (hr:Region.ready md ops listed=[]) (h:Q .normal a w):
  ∀ fuel,q0F P md ops Q S np fuel listed a w
 |0=>⟨hr,h⟩
 |_+1=>⟨fun _=>h,by rw[hr];simp⟩
/-- From the last writing call on S is asked no more. -/
theorem q0L {id:Nat} {a:Act} {w:World} (np:Nat) (S:World→Prop) (hm:P.follows .mixedOrders=true) (hS:S w.drew)
  (h:S w.drew→q0F P .any ops Q S np ops.size (Array.replicate ops.size false) a w.drew):(Code.region id ops true).wp P Q a w:=
 wp_region_any hm (q42 _ _ _ _ (h hS))
end
end Go.Proofs.YtbfjihniphldaaaGreatDoor
namespace Go.Proofs.YtbfjihniphldaaaGreatDoor
open Go.RowKit
/-- What several ways come to is proved once: its words are taken off the first way that reaches it. -/
def Later (T:Prop):Prop:=∃ _:True,T
theorem Later.out {T:Prop} (h:Later T):T:=h.elim fun _ x=>x
theorem Later.mk {T:Prop} (h:T):Later T:=⟨trivial,h⟩
theorem hid {T:Prop} (h:T):Hid T:=h
theorem share {T X:Prop} (main:Later T→X) (proof:Later T):X:=main proof
section
variable {P:Program} {ops:Array Oper} {md:Region.Mode} {S:World→Prop} {Q:Exit→Act→World→Prop}
/-- Two may come up. -/
theorem q0d {np i j:Nat} {o p:Oper} {fuel:Nat} {listed:Array Bool} {a:Act} {w:World} (hr:Region.ready md ops listed=[i,j]) (ho:ops.toList[i]? =some o) (hp:ops.toList[j]? =some p)
  (h1:∀ K':Act→World→Prop,Shut (∀ a w,(np≤i∨S w)→q0F P md ops Q S np fuel (listed.setIfInBounds i true) a w→K' a w)→if Region.wanted o (yielded ops a.tmps)=true then Oper.wp P o a w K' Q else K' (a.put o.dst undef) w)
  (h2:∀ K':Act→World→Prop,Shut (∀ a w,(np≤j∨S w)→q0F P md ops Q S np fuel (listed.setIfInBounds j true) a w→K' a w)→if Region.wanted p (yielded ops a.tmps)=true then Oper.wp P p a w K' Q else K' (a.put p.dst undef) w):
  q0F P md ops Q S np (fuel+1) listed a w:=by
 refine⟨fun h0=>(by rw[hr] at h0;cases h0),fun k hk=> ?_⟩;rw[hr] at hk;have e:k=i∨k=j:=by simpa using hk
 rcases e with e|e
 ·subst e;have ho':ops[k]? =some o:=by rw[← ho];simp
  exact wpOp_step ho' (fun K' hK=>h1 K' (fun a w hS hW=>hK a w ⟨hS,hW⟩))
 ·subst e;have hp':ops[k]? =some p:=by rw[← hp];simp
  exact wpOp_step hp' (fun K' hK=>h2 K' (fun a w hS hW=>hK a w ⟨hS,hW⟩))
/-- Three may come up. -/
theorem q0I {np i j l:Nat} {o p q:Oper} {fuel:Nat} {listed:Array Bool} {a:Act} {w:World} (hr:Region.ready md ops listed=[i,j,l]) (ho:ops.toList[i]? =some o) (hp:ops.toList[j]? =some p) (hq:ops.toList[l]? =some q)
  (h1:∀ K':Act→World→Prop,Shut (∀ a w,(np≤i∨S w)→q0F P md ops Q S np fuel (listed.setIfInBounds i true) a w→K' a w)→if Region.wanted o (yielded ops a.tmps)=true then Oper.wp P o a w K' Q else K' (a.put o.dst undef) w)
  (h2:∀ K':Act→World→Prop,Shut (∀ a w,(np≤j∨S w)→q0F P md ops Q S np fuel (listed.setIfInBounds j true) a w→K' a w)→if Region.wanted p (yielded ops a.tmps)=true then Oper.wp P p a w K' Q else K' (a.put p.dst undef) w)
  (h3:∀ K':Act→World→Prop,Shut (∀ a w,(np≤l∨S w)→q0F P md ops Q S np fuel (listed.setIfInBounds l true) a w→K' a w)→if Region.wanted q (yielded ops a.tmps)=true then Oper.wp P q a w K' Q else K' (a.put q.dst undef) w):
  q0F P md ops Q S np (fuel+1) listed a w:=by
 refine⟨fun h0=>(by rw[hr] at h0;cases h0),fun k hk=> ?_⟩;rw[hr] at hk;have e:k=i∨k=j∨k=l:=by simpa using hk
 rcases e with e|e|e
 ·subst e;have ho':ops[k]? =some o:=by rw[← ho];simp
  exact wpOp_step ho' (fun K' hK=>h1 K' (fun a w hS hW=>hK a w ⟨hS,hW⟩))
 ·subst e;have hp':ops[k]? =some p:=by rw[← hp];simp
  exact wpOp_step hp' (fun K' hK=>h2 K' (fun a w hS hW=>hK a w ⟨hS,hW⟩))
 ·subst e;have hq':ops[k]? =some q:=by rw[← hq];simp
  exact wpOp_step hq' (fun K' hK=>h3 K' (fun a w hS hW=>hK a w ⟨hS,hW⟩))
/-- Which have come up, written another way. -/
theorem q03 {np fuel:Nat} {l l':Array Bool} {a:Act} {w:World} (h:l=l') (H:q0F P md ops Q S np fuel l' a w):q0F P md ops Q S np fuel l a w:=by rw[h];exact H
/-- Four may come up. -/
theorem q5Y {np i j l m:Nat} {o p q r:Oper} {fuel:Nat} {listed:Array Bool} {a:Act} {w:World} (hr:Region.ready md ops listed=[i,j,l,m]) (ho:ops.toList[i]? =some o) (hp:ops.toList[j]? =some p) (hq:ops.toList[l]? =some q) (hs:ops.toList[m]? =some r)
  (h1:∀ K':Act→World→Prop,Shut (∀ a w,(np≤i∨S w)→q0F P md ops Q S np fuel (listed.setIfInBounds i true) a w→K' a w)→if Region.wanted o (yielded ops a.tmps)=true then Oper.wp P o a w K' Q else K' (a.put o.dst undef) w)
  (h2:∀ K':Act→World→Prop,Shut (∀ a w,(np≤j∨S w)→q0F P md ops Q S np fuel (listed.setIfInBounds j true) a w→K' a w)→if Region.wanted p (yielded ops a.tmps)=true then Oper.wp P p a w K' Q else K' (a.put p.dst undef) w)
  (h3:∀ K':Act→World→Prop,Shut (∀ a w,(np≤l∨S w)→q0F P md ops Q S np fuel (listed.setIfInBounds l true) a w→K' a w)→if Region.wanted q (yielded ops a.tmps)=true then Oper.wp P q a w K' Q else K' (a.put q.dst undef) w)
  (h4:∀ K':Act→World→Prop,Shut (∀ a w,(np≤m∨S w)→q0F P md ops Q S np fuel (listed.setIfInBounds m true) a w→K' a w)→if Region.wanted r (yielded ops a.tmps)=true then Oper.wp P r a w K' Q else K' (a.put r.dst undef) w):
  q0F P md ops Q S np (fuel+1) listed a w:=by
 refine⟨fun h0=>(by rw[hr] at h0;cases h0),fun k hk=> ?_⟩;rw[hr] at hk;have e:k=i∨k=j∨k=l∨k=m:=by simpa using hk
 rcases e with e|e|e|e
 ·subst e;have ho':ops[k]? =some o:=by rw[← ho];simp
  exact wpOp_step ho' (fun K' hK=>h1 K' (fun a w hS hW=>hK a w ⟨hS,hW⟩))
 ·subst e;have hp':ops[k]? =some p:=by rw[← hp];simp
  exact wpOp_step hp' (fun K' hK=>h2 K' (fun a w hS hW=>hK a w ⟨hS,hW⟩))
 ·subst e;have hq':ops[k]? =some q:=by rw[← hq];simp
  exact wpOp_step hq' (fun K' hK=>h3 K' (fun a w hS hW=>hK a w ⟨hS,hW⟩))
 ·subst e;have hs':ops[k]? =some r:=by rw[← hs];simp
  exact wpOp_step hs' (fun K' hK=>h4 K' (fun a w hS hW=>hK a w ⟨hS,hW⟩))
end
end Go.Proofs.YtbfjihniphldaaaGreatDoor
namespace Go.Proofs.YtbfjihniphldaaaGreatDoor
open Go.RowKit
/-- What the value of an operation is: a given one; or one of a kind, in the world behind it and in all later ones. -/
inductive Kind where
 |is (c:Value)
 |any (p:Value→World→Prop)
def Kind.Held:Kind→Value→World→Prop
 | .is c,v,_=>v=c
 | .any p,v,w=>p v w
def Kind.pick:Kind→Value→Value
 | .is c,_=>c
 | .any _,v=>v
/-- What lasts. -/
def q6E (p:Value→World→Prop):Prop:=∀ v w w',G w w'→p v w→p v w'
def Kind.Stays:Kind→Prop
 | .is _=>True
 | .any p=>q6E p
theorem Kind.Stays.held {k:Kind} (h:k.Stays) {v:Value} {w w':World} (g:G w w') (hv:k.Held v w):k.Held v w':=by
 cases k with
 |is c=>exact hv
 |any p=>exact h v w w' g hv
def q1j:List Kind→Prop
 |[]=>True
 | .is _::l=>q1j l
 | .any p::l=>q6E p∧q1j l
theorem q3r:∀ {l:List Kind},q1j l→∀ k∈l,k.Stays:=by
 intro l
 induction l with
 |nil=>intro _ k hk;cases hk
 |cons c l ih=>
  intro h k hk;cases c with
  |is c=>
   rcases List.mem_cons.1 hk with rfl|hk
   ·trivial
   ·exact ih h k hk
  |any p=>
   rcases List.mem_cons.1 hk with rfl|hk
   ·exact h.1
   ·exact ih h.2 k hk
/-- Letters for what isn't given. -/
def Letters:List Kind→(List Value→Prop)→Prop
 |[],T=>T []
 | .is c::l,T=>Letters l fun vs=>T (c::vs)
 | .any _::l,T=>∀ v,Letters l fun vs=>T (v::vs)
theorem Letters.get:∀ {l:List Kind} {T:List Value→Prop},Letters l T→∀ f:Nat→Value,T (l.zipIdx.map fun p=>p.1.pick (f p.2)):=by
 have main:∀ (l:List Kind) (T:List Value→Prop) (n:Nat),Letters l T→∀ f:Nat→Value,T ((l.zipIdx n).map fun p=>p.1.pick (f p.2)):=by
  intro l
  induction l with
  |nil=>intro T n h f;exact h
  |cons k l ih=>
   intro T n h f;cases k with
   |is c=>exact ih _ (n+1) h f
   |any p=>exact ih _ (n+1) (h (f n)) f
 exact fun {l T} h f=>main l T 0 h f
section
variable {P:Program} {ops:Array Oper} {md:Region.Mode} {Q:Exit→Act→World→Prop}
def q1d (ops:Array Oper) (i:Nat):Option Tmp:=(ops[i]?).bind (·.dst)
/-- The values of those of the first n that are listed, laid down. -/
def laid (ops:Array Oper) (f:Nat→Value) (listed:Nat→Bool) (a:Act):Nat→Act
 |0=>a
 |n+1=>if listed n then (laid ops f listed a n).put (q1d ops n) (f n) else laid ops f listed a n
/-- All of them. -/
def fill:List Oper→List Value→Act→Act
 |o::l,v::vs,a=>fill l vs (a.put o.dst v)
 |_,_,a=>a
/-- The same, of the slots alone. -/
def q0W:List (Option Tmp)→List Value→Act→Act
 |d::l,v::vs,a=>q0W l vs (a.put d v)
 |_,_,a=>a
theorem q90 (a:Act) (d:Option Tmp) (v:Value):(a.put d v).tmps.size=a.tmps.size:=by cases d<;>simp [Act.put]
theorem q72 {a:Act} {dst:Option Tmp} {v:Value} {t:Nat} (h:dst≠some t):(a.put dst v).tmps[t]? =a.tmps[t]? :=by
 cases dst with
 |none=>rfl
 |some d=>
  have hne:d≠t:=fun e=>h (by rw[e]);simp [Act.put,Array.getElem?_setIfInBounds_ne hne]
theorem put_defers (a:Act) (d:Option Tmp) (v:Value):(a.put d v).defers=a.defers:=by cases d<;>rfl
theorem q1B (f:Nat→Value) (listed:Nat→Bool) (a:Act) (n:Nat):(laid ops f listed a n).tmps.size=a.tmps.size:=by
 induction n with
 |zero=>rfl
 |succ n ih=>simp only[laid];split<;>simp [q90,ih]
theorem q18 {f g:Nat→Value} {l m:Nat→Bool} (a:Act) (n:Nat) (h:∀ j,j<n→l j=m j∧(l j=true→f j=g j)):laid ops f l a n=laid ops g m a n:=by
 induction n with
 |zero=>rfl
 |succ n ih=>
  simp only[laid];obtain⟨h1,h2⟩:=h n (by omega);rw[ih (fun j hj=>h j (by omega)),← h1];split
  ·rw[h2 (by assumption)]
  ·rfl
theorem q4h {f:Nat→Value} {l:Nat→Bool} (a:Act) {i:Nat} (v:Value) (hl:l i=false):∀ n,i<n→(∀ j,j<n→j≠i→∀ d,q1d ops i=some d→q1d ops j≠some d)→
  laid ops (fun j=>if j=i then v else f j) (fun j=>if j=i then true else l j) a n=(laid ops f l a n).put (q1d ops i) v:=by
 intro n
 induction n with
 |zero=>intro h;omega
 |succ n ih=>
  intro hin hd;by_cases hni:n=i
  ·subst hni;simp only[laid,if_true,hl,Bool.false_eq_true,if_false]
   congr 1
   refine q18 a n fun j hj=> ?_;have:j≠n:=by omega
   simp [this]
  ·simp only[laid,hni,if_false];rw[ih (by omega) (fun j hj=>hd j (by omega))];split
   ·exact Act.put_comm _ v (f n) (fun d h1=>hd n (by omega) hni d h1)
   ·rfl
theorem q4p {f:Nat→Value} {l m:Nat→Bool} (a:Act) {t:Nat}:∀ n,(∀ j,j<n→q1d ops j=some t→l j=m j)→(∀ j j',j<n→j'<n→q1d ops j=some t→q1d ops j'=some t→j=j')→
  (laid ops f l a n).tmps[t]? =(laid ops f m a n).tmps[t]? :=by
 intro n
 induction n with
 |zero=>intro _ _;rfl
 |succ n ih=>
  intro h hu;have hi:=ih (fun j hj=>h j (by omega)) (fun j j' hj hj'=>hu j j' (by omega) (by omega));by_cases hd:q1d ops n=some t
  ·have e:=h n (by omega) hd;simp only[laid,← e];split
   ·rw[hd];simp only[Act.put,Array.getElem?_setIfInBounds,q1B];split
    ·rfl
    ·exact hi
   ·exact hi
  ·simp only[laid];split<;>split<;>simp only[q72 hd,hi]
theorem q3f (f:Nat→Value) (a:Act):∀ (l pre:List Oper) (vs:List Value) (b:Act),ops.toList.take (pre.length+l.length)=pre++l→vs=(List.range l.length).map (fun i=>f (pre.length+i))→b=laid ops f (fun _=>true) a pre.length→
  fill l vs b=laid ops f (fun _=>true) a (pre.length+l.length):=by
 intro l
 induction l with
 |nil=>intro pre vs b _ _ hb;simp only[fill,List.length_nil,Nat.add_zero];exact hb
 |cons o l ih=>
  intro pre vs b ht hv hb;have h0:ops[pre.length]? =some o:=by
   have h1:(ops.toList.take (pre.length+(o::l).length))[pre.length]? =some o:=by rw[ht];simp
   rw[List.getElem?_take,if_pos (by simp)] at h1;rw[← h1];simp
  rw[hv,List.length_cons,List.range_succ_eq_map];simp only[List.map_cons,Nat.add_zero,fill,List.map_map];have:=ih (pre++[o]) ((List.range l.length).map fun i=>f ((pre++[o]).length+i)) (b.put o.dst (f pre.length))
   (by rw[List.append_assoc,List.singleton_append,← ht];congr 1;simp only[List.length_append,List.length_cons,List.length_nil];omega) rfl
   (by rw[hb,List.length_append,List.length_cons,List.length_nil];simp only[laid,if_true,q1d,h0,Option.bind_some])
  rw[show pre.length+(l.length+1)=(pre++[o]).length+l.length from by simp;omega];rw[← this]
  congr 2
  funext i
  simp only[Function.comp,List.length_append,List.length_cons,List.length_nil]
  congr 1;omega
theorem q4o {A b:Act} {dst:Option Tmp} {u v:Value} (hs:A.tmps.size=b.tmps.size) (h:A.put dst u=A.put dst v):b.put dst u=b.put dst v:=by
 cases dst with
 |none=>rfl
 |some d=>
  by_cases hd:d<A.tmps.size
  ·have h1:(A.put (some d) u).tmps[d]? =(A.put (some d) v).tmps[d]? :=by rw[h]
   simp only[Act.put,Array.getElem?_setIfInBounds_self,hd,if_true,Option.some.injEq] at h1;rw[h1]
  ·have hd2:b.tmps.size≤d:=by rw[← hs];exact Nat.le_of_not_lt hd
   simp only[Act.put];rw[Array.setIfInBounds_eq_of_size_le hd2,Array.setIfInBounds_eq_of_size_le hd2]
def noQ:Exit→Act→World→Prop:=fun _ _ _=>False
theorem qaW:¬ LetsOut noQ:=fun ⟨_,_,h⟩=>h
/-- What was shown of an operation in one act, in another one in which it sees the same. -/
theorem q3p {o:Oper} {A b:Act} {H:Value→World→Prop} {K:Act→World→Prop} {r:Result Next} (hs:A.tmps.size=b.tmps.size)
  (h:o.upon P A (fun a' w'=>∃ v,a'=A.put o.dst v∧H v w') noQ r) (hK:∀ v w',H v w'→K (b.put o.dst v) w'):o.upon P b K Q r:=by
 have step:∀ {u w'},(∃ v,A.put o.dst u=A.put o.dst v∧H v w')→K (b.put o.dst u) w':=by
  rintro u w' ⟨v,h1,h2⟩;rw[q4o hs h1];exact hK v w' h2
 cases r with
 |ok n w'=>
  cases n<;>simp only[Oper.upon] at h ⊢
  case value u=>exact step h
  case skip=>exact step h
  case defer d=>
   obtain⟨v,h1,-⟩:=h;have h2:=congrArg (fun x:Act=>x.defers.length) h1;simp only[put_defers,List.length_cons] at h2;omega
  case enter f args=>
   refine Calls.mono h fun e w'' he=> ?_;cases e with
   |returned u=>exact step he
   |panicked c=>exact he.elim
   |outgrown=>exact absurd he qaW
  case row row args=>exact Rows.mono h fun u w'' he=>step he
 |halt x w'=>
  cases x<;>simp only[Oper.upon] at h ⊢
  case panic u=>exact h.elim
/-- The gate: all before np are listed ahead of it, and it ahead of what is behind it. -/
def q1X (md:Region.Mode) (ops:Array Oper) (np:Nat):Bool:=
 (np==ops.size||q1l md ops np)&&decide (np≤ops.size)&&Region.noSelect ops&&
 (List.range np).all (fun i=>(List.range np).all fun j=>i==j||(q1d ops i).isNone||q1d ops i != q1d ops j)&&
 (List.range np).all (fun i=>match ops[i]? with
  |some o=>o.after.all fun e=> !Region.binds md e||decide (e.on<i)
  |none=>true)&&
 (List.range np).all (fun i=>match ops[i]? with
  |some o=>(List.range np).all fun j=>(match q1d ops j with
   |some t=> !(o.looksAt ops).contains t
   |none=>true)||waits md ops i j
  |none=>true)
/-- What is known of what i waits for. -/
def Deps (md:Region.Mode) (ops:Array Oper) (i:Nat) (w:World):Nat→List Kind→List Value→Prop
 |j,.any p::l,v::vs=>(waits md ops i j=true→p v w)∧Deps md ops i w (j+1) l vs
 |j,.is _::l,_::vs=>Deps md ops i w (j+1) l vs
 |_,_,_=>True
theorem q5p {i:Nat} {w:World} {f:Nat→Value}:∀ {l:List Kind} {n:Nat},(∀ (j:Nat) (k:Kind),l[j]? =some k→waits md ops i (n+j)=true→k.Held (f (n+j)) w)→Deps md ops i w n l ((l.zipIdx n).map fun p=>p.1.pick (f p.2)):=by
 intro l
 induction l with
 |nil=>intro n _;trivial
 |cons k l ih=>
  intro n h;have hr:=ih (n:=n+1) (fun j k hk hw=>by
   have:=h (j+1) k (by simpa using hk) (by rw[← hw];congr 1;omega)
   rwa[show n+1+j=n+(j+1) from by omega])
  cases k with
  |is c=>exact hr
  |any p=>exact⟨fun hw=>h 0 _ rfl hw,hr⟩
/-- What is known behind them all. -/
def Helds (w:World):List Kind→List Value→Prop
 | .any p::l,v::vs=>p v w∧Helds w l vs
 | .is _::l,_::vs=>Helds w l vs
 |_,_=>True
theorem q4t {w:World} {f:Nat→Value}:∀ {l:List Kind} {n:Nat},(∀ (j:Nat) (k:Kind),l[j]? =some k→k.Held (f (n+j)) w)→Helds w l ((l.zipIdx n).map fun p=>p.1.pick (f p.2)):=by
 intro l
 induction l with
 |nil=>intro n _;trivial
 |cons k l ih=>
  intro n h;have hr:=ih (n:=n+1) (fun j k hk=>by
   have:=h (j+1) k (by simpa using hk)
   rwa[show n+1+j=n+(j+1) from by omega])
  cases k with
  |is c=>exact hr
  |any p=>exact⟨h 0 _ rfl,hr⟩
/-- What is to be shown of operation i. -/
def Each (P:Program) (md:Region.Mode) (ops:Array Oper) (R:List Kind) (w0:World) (vs:List Value) (A:Act) (i:Nat) (o:Oper) (k:Kind):Prop:=
 ∀ w,G w0 w→Deps md ops i w 0 R vs→∀ K:Act→World→Prop,Hid (∀ a' w',(∃ v,a'=A.put o.dst v∧G w w'∧k.Held v w')→K a' w')→
  if Region.wanted o (yielded ops A.tmps)=true then Oper.wp P o A w K noQ else K (A.put o.dst undef) w
def Eaches (P:Program) (md:Region.Mode) (ops:Array Oper) (R:List Kind) (w0:World) (vs:List Value) (A:Act):Nat→List Oper→List Kind→Prop
 |i,o::l,k::ks=>Each P md ops R w0 vs A i o k∧Eaches P md ops R w0 vs A (i+1) l ks
 |_,_,_=>True
theorem Eaches.get {R:List Kind} {w0:World} {vs:List Value} {A:Act}:∀ {l:List Oper} {ks:List Kind} {n:Nat},Eaches P md ops R w0 vs A n l ks→∀ {j o k},l[j]? =some o→ks[j]? =some k→Each P md ops R w0 vs A (n+j) o k:=by
 intro l
 induction l with
 |nil=>intro ks n _ j o k h;simp at h
 |cons o l ih=>
  intro ks n h j o' k' h1 h2;cases ks with
  |nil=>simp at h2
  |cons k ks=>
   cases j with
   |zero=>
    simp only[List.getElem?_cons_zero,Option.some.injEq] at h1 h2;subst h1;subst h2;exact h.1
   |succ j=>
    have:=ih h.2 (by simpa using h1) (by simpa using h2)
    rwa[show n+(j+1)=n+1+j from by omega]
theorem q1I {listed:Array Bool} {np i0:Nat} (hi0:i0<np) (hu0:listed.getD i0 false=false):∃ i,i<np∧listed.getD i false=false∧∀ j,j<i→listed.getD j false=true:=by
 induction i0 using Nat.strongRecOn with
 |ind i ih=>
  by_cases h:∃ j,j<i∧listed.getD j false=false
  ·obtain⟨j,h1,h2⟩:=h;exact ih j h1 (by omega) h2
  ·refine⟨i,hi0,hu0,fun j hj=> ?_⟩;cases h1:listed.getD j false with
   |true=>rfl
   |false=>exact absurd ⟨j,hj,h1⟩ h
theorem q3o {l:Nat→Bool} {np i m:Nat} (hi:i<np) (hu:l i=false) (hm:((List.range np).countP fun j=> !l j)=m+1):((List.range np).countP fun j=> !(if j=i then true else l j))=m:=by
 have main:∀ n,((List.range n).countP fun j=> !l j)=((List.range n).countP fun j=> !(if j=i then true else l j))+if i<n then 1 else 0:=by
  intro n
  induction n with
  |zero=>rfl
  |succ n ih=>
   rw[List.range_succ,List.countP_append,List.countP_append,ih];simp only[List.countP_cons,List.countP_nil];by_cases h1:n=i
   ·subst h1;simp [hu]
   ·by_cases h2:i<n
    ·have h3:i<n+1:=by omega
     simp only[h1,if_false,h2,h3,if_true];omega
    ·have h3:¬ i<n+1:=by omega
     simp only[h1,if_false,h2,h3];omega
 have h1:=main np;rw[if_pos hi] at h1;omega
theorem q5D {R:List Kind} {np:Nat} {a:Act} {w0:World} (hok:q1X md ops np=true) (hR:R.length=np) (hst:∀ k∈R,k.Stays)
  (H:∀ f:Nat→Value,Eaches P md ops R w0 (R.zipIdx.map fun p=>p.1.pick (f p.2)) (laid ops (fun i=>((R[i]?).map (·.pick (f i))).getD undef) (fun _=>true) a np) 0 (ops.toList.take np) R)
  {dN:Nat} (sV:∀ (f:Nat→Value) w,G w0 w→(∀ (j:Nat) (k:Kind),R[j]? =some k→k.Held (f j) w)→∀ listed:Array Bool,listed.size=ops.size→(∀ j,j<np→listed.getD j false=true)→(∀ j,np≤j→listed.getD j false=false)→
   wpAny P md ops Q dN listed (laid ops f (fun _=>true) a np) w):
  ∀ (m:Nat) (listed:Array Bool) (f:Nat→Value) (w:World),listed.size=ops.size→Closed md ops listed→(∀ j,np≤j→listed.getD j false=false)→
   ((List.range np).countP fun j=> !listed.getD j false)=m→G w0 w→(∀ (j:Nat) (k:Kind),R[j]? =some k→listed.getD j false=true→k.Held (f j) w)→
   wpAny P md ops Q (dN+m) listed (laid ops f (fun j=>listed.getD j false) a np) w:=by
 unfold q1X at hok;simp only[Bool.and_eq_true,Bool.or_eq_true,beq_iff_eq,decide_eq_true_eq] at hok;obtain⟨⟨⟨⟨⟨hgate,uw⟩,hsel⟩,hdst⟩,hback⟩,jc⟩:=hok;have jd:∀ i j,i<np→j<np→j≠i→∀ d,q1d ops i=some d→q1d ops j≠some d:=by
  intro i j hi hj hne d h1 h2;simp only[List.all_eq_true,List.mem_range,Bool.or_eq_true,beq_iff_eq,bne_iff_ne,ne_eq] at hdst;rcases hdst i hi j hj with (h|h)|h
  ·exact hne h.symm
  ·rw[h1] at h;simp at h
  ·exact h (by rw[h1,h2])
 have jL:∀ i j o t,i<np→j<np→ops[i]? =some o→q1d ops j=some t→t∈o.looksAt ops→waits md ops i j=true:=by
  intro i j o t hi hj ho hd ht;simp only[List.all_eq_true,List.mem_range] at jc;have h1:=jc i hi;rw[ho] at h1;simp only[List.all_eq_true,List.mem_range] at h1;have h2:=h1 j hj;rw[hd] at h2;simpa [ht] using h2
 intro m
 induction m with
 |zero=>
  intro listed f w hsz hc hge hm hG hh;have hall:∀ j,j<np→listed.getD j false=true:=by
   intro j hj;rw[List.countP_eq_zero] at hm;have:=hm j (List.mem_range.2 hj);simpa using this
  have e:laid ops f (fun j=>listed.getD j false) a np=laid ops f (fun _=>true) a np:=q18 a np fun j hj=>⟨hall j hj,fun _=>rfl⟩;rw[e];exact sV f w hG (fun j k hk=>hh j k hk (hall j (by rw[← hR];exact(List.getElem?_eq_some_iff.1 hk).1))) listed hsz hall hge
 |succ m ih=>
  intro listed f w hsz hc hge hm hG hh;obtain⟨i0,hi0,hu0⟩:∃ i,i<np∧listed.getD i false=false:=by
   have:0<(List.range np).countP fun j=> !listed.getD j false:=by omega
   rw[List.countP_pos_iff] at this;obtain⟨j,h1,h2⟩:=this;exact⟨j,List.mem_range.1 h1,by simpa using h2⟩
  -- the least one that is not listed may come up
  have hpre:∀ j,j∈Region.ready md ops listed→j<np:=by
   intro j hj;obtain⟨-,o,ho,-⟩:=mem_ready.1 hj;have hjs:j<ops.size:=(Array.getElem?_eq_some_iff.1 ho).1;rcases hgate with h|h
   ·omega
   ·exact q2b hc h hi0 hu0 hj
  refine⟨fun h0=> ?_,fun i hi=> ?_⟩
  ·exfalso;obtain⟨i,hi,hu,hmin⟩:=q1I hi0 hu0;have his:i<ops.size:=by omega
   have ho:ops[i]? =some ops[i]:=Array.getElem?_eq_getElem his;have hmem:i∈Region.ready md ops listed:=mem_ready.2 ⟨by simp only[Array.getD_eq_getD_getElem?,Array.getElem?_eq_getElem (show i<listed.size by omega),Option.getD_some] at hu ⊢;exact hu,ops[i],ho,fun e he hb=>by
    simp only[List.all_eq_true,List.mem_range] at hback;have h1:=hback i hi;rw[ho] at h1;simp only[Array.all_eq_true_iff_forall_mem] at h1;have h2:=h1 e he;simp only[hb,Bool.not_true,Bool.false_or,decide_eq_true_eq] at h2;exact hmin _ h2⟩
   rw[h0] at hmem;cases hmem
  ·have hin:=hpre i hi;obtain⟨wI,o,ho,hall⟩:=mem_ready.1 hi;have vR:=q0r wI;have his:i<ops.size:=by omega
   obtain⟨k,hk⟩:∃ k,R[i]? =some k:=⟨R[i]'(by omega),List.getElem?_eq_getElem (by omega)⟩;have hE:=(H f).get (j:=i) (o:=o) (k:=k) (by rw[List.getElem?_take,if_pos hin];simpa using ho) hk;rw[Nat.zero_add] at hE;have hD:Deps md ops i w 0 R (R.zipIdx.map fun p=>p.1.pick (f p.2)):=q5p (n:=0) fun j k hk hw=>by
    rw[Nat.zero_add] at hw ⊢;exact hh j k hk (q0E hi hw)
   have Kw:∀ (j:Nat) (k:Kind),R[j]? =some k→listed.getD j false=true→k.pick (f j)=f j:=fun j k hk hl=>by
    have:=hh j k hk hl;cases k with
    |is c=>exact this.symm
    |any p=>rfl
   obtain⟨A,hA⟩:∃ A,A=laid ops (fun i=>((R[i]?).map (·.pick (f i))).getD undef) (fun _=>true) a np:=⟨_,rfl⟩;rw[← hA] at hE;have hget:∀ t,t∈o.looksAt ops→A.tmps[t]? =(laid ops f (fun j=>listed.getD j false) a np).tmps[t]? :=by
    intro t ht;have e1:laid ops f (fun j=>listed.getD j false) a np=laid ops (fun i=>((R[i]?).map (·.pick (f i))).getD undef) (fun j=>listed.getD j false) a np:=q18 a np fun j hj=>⟨rfl,fun hl=>by
     have hkj:R[j]? =some (R[j]'(by omega)):=List.getElem?_eq_getElem (by omega);rw[hkj];simp only[Option.map_some,Option.getD_some];exact(Kw j _ hkj hl).symm⟩
    rw[e1,hA];refine q4p a np (fun j hj hd=> ?_) (fun j j' hj hj' h1 h2=> ?_)
    ·exact(q0E hi (jL i j o t hin hj ho hd ht)).symm
    ·by_cases hjj:j'=j
     ·exact hjj.symm
     ·exact absurd h2 (jd j j' hj hj' hjj t h1)
   have hsA:A.tmps.size=(laid ops f (fun j=>listed.getD j false) a np).tmps.size:=by rw[hA,q1B,q1B]
   have hex:execOp (laid ops f (fun j=>listed.getD j false) a np).eval o=execOp A.eval o:=by
    refine execOp_congr o (fun cs b=>Region.noSelect_spec hsel i o cs b ho) fun x hx=> ?_;cases x with
    |tmp t=>
     have:=hget t (List.mem_append_left _ (List.mem_filterMap.2 ⟨.tmp t,by simpa using hx,rfl⟩));simp [Act.eval,this]
    |_=>rfl
   have EB:Region.wanted o (yielded ops (laid ops f (fun j=>listed.getD j false) a np).tmps)=Region.wanted o (yielded ops A.tmps):=by
    unfold Region.wanted;cases hg:o.guard with
    |none=>rfl
    |some gw=>
     obtain⟨g,want⟩:=gw;have:yielded ops (laid ops f (fun j=>listed.getD j false) a np).tmps g=yielded ops A.tmps g:=by
      unfold yielded;cases ht:(ops[g]?).bind (·.dst) with
      |none=>rfl
      |some t=>
       have h1:=hget t (by simp [Oper.looksAt,hg,ht]);simp [h1]
     simp only[this]
   have hnext:∀ v w',(G w w'∧k.Held v w')→wpAny P md ops Q (dN+m) (listed.setIfInBounds i true) ((laid ops f (fun j=>listed.getD j false) a np).put o.dst v) w':=by
    rintro v w' ⟨g,hv⟩;have e1:o.dst=q1d ops i:=by simp [q1d,ho]
    rw[e1,← q4h a v vR np hin (fun j hj hne=>jd i j hin hj hne)];have e2:(fun j=>if j=i then true else listed.getD j false)=fun j=>(listed.setIfInBounds i true).getD j false:=by
     funext j
     by_cases hji:j=i
     ·subst hji;simp;omega
     ·rw[getD_set_ne false (Ne.symm hji),if_neg hji]
    rw[e2];refine ih _ _ w' (by simpa using hsz) (hc.set hi) (fun j hj=> ?_) ?_ (hG.trans g) (fun j k' hk' hl=> ?_)
    ·rw[getD_set_ne false (by omega)];exact hge j hj
    ·have h5:=q3o (l:=fun j=>listed.getD j false) (m:=m) (np:=np) hin vR hm;have e3:(fun j=> !(if j=i then true else listed.getD j false))=fun j=> !(listed.setIfInBounds i true).getD j false:=by
      funext j
      exact congrArg (fun b=> !b) (congrFun e2 j)
     rw[← e3];exact h5
    ·by_cases hji:j=i
     ·subst hji;rw[hk] at hk';cases hk';simpa using hv
     ·rw[getD_set_ne false (Ne.symm hji)] at hl;have hm1:k'∈R:=List.mem_of_getElem? hk';simpa [hji] using (hst k' hm1).held g (hh j k' hk' hl)
   have hE2:=hE w hG hD (fun a' w'=>∃ v,a'=A.put o.dst v∧G w w'∧k.Held v w') (fun a' w' h=>h);unfold wpOp;rw[ho];simp only[EB];split
   ·rename_i hw
    simp only[hw,if_true] at hE2;left;unfold Oper.wp at hE2 ⊢;rw[hex];exact q3p (H:=fun v w'=>G w w'∧k.Held v w') hsA hE2 hnext
   ·rename_i hw
    simp only[hw,Bool.false_eq_true,if_false] at hE2;obtain⟨v,h1,h2⟩:=hE2;rw[q4o hsA h1];exact hnext v w h2
theorem q5t:∀ (l:List Oper) (vs:List Value) (a:Act),fill l vs a=q0W (l.map (·.dst)) vs a:=by
 intro l
 induction l with
 |nil=>intro vs a;cases vs<;>rfl
 |cons o l ih=>
  intro vs a;cases vs with
  |nil=>rfl
  |cons v vs=>exact ih vs _
/-- What is to be shown: of each operation, and from behind them all on. -/
def q48 (P:Program) (ops:Array Oper) (Q:Exit→Act→World→Prop) (np m:Nat) (ls:Array Bool) (R:List Kind) (ds:List (Option Tmp)) (a:Act) (w:World) (vs:List Value):Prop:=
 ∀ A,A=q0W ds vs a→Eaches P .any ops R w vs A 0 (ops.toList.take np) R∧
   ∀ w',G w w'→Helds w' R vs→wpAny P .any ops Q m ls A w'
/-- A region that draws its order: its first np operations, each of which leaves standing what was there, once each; then what is behind the gate. -/
theorem q09 {id:Nat} {a:Act} {w:World} (np m:Nat) (ls:Array Bool) (R:List Kind) (ds:List (Option Tmp)) (hm:P.follows .mixedOrders=true) (hok:q1X .any ops np=true) (hR:R.length=np) (hd:(ops.toList.take np).map (·.dst)=ds) (hst:q1j R)
  (hsm:ops.size=np+m) (hls:Array.replicate np true++Array.replicate m false=ls) (h:Letters R (q48 P ops Q np m ls R ds a w)):
  (Code.region id ops true).wp P Q a w:=by
 refine wp_region_any hm ?_;have uw:np≤ops.size:=by
  unfold q1X at hok;simp only[Bool.and_eq_true,decide_eq_true_eq] at hok;exact hok.1.1.1.1.2
 have hl:(ops.toList.take np).length=np:=by simp;omega
 have hlaid:∀ f:Nat→Value,q0W ds (R.zipIdx.map fun p=>p.1.pick (f p.2)) a=laid ops (fun i=>((R[i]?).map (·.pick (f i))).getD undef) (fun _=>true) a np:=by
  intro f;rw[← hd,← q5t];have:=q3f (ops:=ops) (fun i=>((R[i]?).map (·.pick (f i))).getD undef) a (ops.toList.take np) [] (R.zipIdx.map fun p=>p.1.pick (f p.2)) a
   (by simp) (by
    rw[hl];refine List.ext_getElem (by simp [hR]) fun i h1 h2=> ?_;have hi:i<R.length:=by simpa using h1
    simp [hi]) rfl
  simpa [hl,Nat.min_eq_left uw] using this
 have key:=q5D (P:=P) (md:= .any) (ops:=ops) (Q:=Q) (R:=R) (np:=np) (a:=a) (w0:=w) hok hR (q3r hst) (fun f=>by
   have h1:=(h.get f _ (hlaid f).symm).1;exact h1) (dN:=m) (fun f w' g hh listed hsz hlt hge=>by
   have hp:∀ (j:Nat) (k:Kind),R[j]? =some k→k.pick (f j)=f j:=fun j k hk=>by
    have:=hh j k hk;cases k with
    |is c=>exact this.symm
    |any p=>rfl
   have h2:=(h.get f _ (hlaid f).symm).2 w' g (q4t (n:=0) (f:=f) fun j k hk=>by rw[Nat.zero_add];exact hh j k hk);have e1:laid ops f (fun _=>true) a np=laid ops (fun i=>((R[i]?).map (·.pick (f i))).getD undef) (fun _=>true) a np:=q18 a np fun j hj=>⟨rfl,fun _=>by
    have hkj:R[j]? =some (R[j]'(by omega)):=List.getElem?_eq_getElem (by omega);rw[hkj];simp only[Option.map_some,Option.getD_some];exact(hp j _ hkj).symm⟩
   have e2:listed=ls:=by
    rw[← hls];refine Array.ext (by simp [hsz];omega) fun j h1 h2=> ?_;have e3:listed[j]=listed.getD j false:=by simp [h1]
    rw[e3];by_cases hj:j<np
    ·rw[hlt j hj,Array.getElem_append_left (by simpa using hj)];simp
    ·rw[hge j (by omega),Array.getElem_append_right (by simpa using hj)];simp
   rw[e1,e2];exact h2) np (Array.replicate ops.size false) (fun _=>undef) w.drew (by simp) (fun j k hj _=>by
    by_cases hjs:j<ops.size<;>simp [hjs] at hj) (fun j _=>by by_cases hjs:j<ops.size<;>simp [hjs]) (by
    have:∀ n,((List.range n).countP fun j=> !(Array.replicate ops.size false).getD j false)=n:=by
     intro n;rw[List.countP_eq_length.2,List.length_range];intro j _;by_cases hjs:j<ops.size<;>simp [hjs]
    exact this np) (G.refl _).drew (fun j k _ hj=>by by_cases hjs:j<ops.size<;>simp [hjs] at hj)
 have e:laid ops (fun _=>undef) (fun j=>(Array.replicate ops.size false).getD j false) a np=a:=by
  have:∀ n,laid ops (fun _=>undef) (fun j=>(Array.replicate ops.size false).getD j false) a n=a:=by
   intro n
   induction n with
   |zero=>rfl
   |succ n ih=>
    have e0:(Array.replicate ops.size false).getD n false=false:=by by_cases hjs:n<ops.size<;>simp [hjs]
    simp only[laid,e0,Bool.false_eq_true,if_false,ih]
  exact this np
 rw[e] at key;rw[show m+np=ops.size from by omega] at key;exact key
theorem Letters.nil {T:List Value→Prop} (h:T []):Letters [] T:=h
theorem Letters.is {c:Value} {l:List Kind} {T:List Value→Prop} (h:Letters l fun vs=>T (c::vs)):Letters (.is c::l) T:=h
theorem Letters.any {p:Value→World→Prop} {l:List Kind} {T:List Value→Prop} (h:∀ v,Letters l fun vs=>T (v::vs)):Letters (.any p::l) T:=h
theorem Eaches.nil {R:List Kind} {w0:World} {vs:List Value} {A:Act} {i:Nat} {l:List Oper}:Eaches P md ops R w0 vs A i l []:=by cases l<;>trivial
theorem Eaches.cons {R:List Kind} {w0:World} {vs:List Value} {A:Act} {i:Nat} {l L:List Oper} {o:Oper} {k:Kind} {ks:List Kind} (e:l=o::L) (h:Each P md ops R w0 vs A i o k) (h2:Eaches P md ops R w0 vs A (i+1) L ks):Eaches P md ops R w0 vs A i l (k::ks):=by
 subst e;exact⟨h,h2⟩
theorem Deps.get {i:Nat} {w:World} {p:Value→World→Prop} {v:Value}:∀ {R:List Kind} {vs:List Value} {n:Nat} (j:Nat),Deps md ops i w n R vs→R[j]? =some (.any p)→vs[j]? =some v→waits md ops i (n+j)=true→p v w:=by
 intro R
 induction R with
 |nil=>intro vs n j _ h;simp at h
 |cons k R ih=>
  intro vs n j h h1 h2 h3;cases vs with
  |nil=>simp at h2
  |cons u vs=>
   cases j with
   |zero=>
    simp only[List.getElem?_cons_zero,Option.some.injEq] at h1 h2;subst h1;subst h2;exact h.1 h3
   |succ j=>
    have h3':waits md ops i (n+1+j)=true:=by rw[← h3];congr 1;omega
    cases k with
    |is c=>exact ih j h (by simpa using h1) (by simpa using h2) h3'
    |any q=>exact ih j h.2 (by simpa using h1) (by simpa using h2) h3'
theorem Helds.get {w:World} {p:Value→World→Prop} {v:Value}:∀ {R:List Kind} {vs:List Value} (j:Nat),Helds w R vs→R[j]? =some (.any p)→vs[j]? =some v→p v w:=by
 intro R
 induction R with
 |nil=>intro vs j _ h;simp at h
 |cons k R ih=>
  intro vs j h h1 h2;cases vs with
  |nil=>simp at h2
  |cons u vs=>
   cases j with
   |zero=>
    simp only[List.getElem?_cons_zero,Option.some.injEq] at h1 h2;subst h1;subst h2;exact h.1
   |succ j=>
    cases k with
    |is c=>exact ih j h (by simpa using h1) (by simpa using h2)
    |any q=>exact ih j h.2 (by simpa using h1) (by simpa using h2)
end
end Go.Proofs.YtbfjihniphldaaaGreatDoor
namespace Go.Proofs.YtbfjihniphldaaaGreatDoor
open Go.ChangeShapes Go.WideShapes Go.ChangeAt Go.RowKit
/-- Block b is these cells; they may be written. -/
def Rec (w:World) (b:Nat) (l:List Value):Prop:=∃ t,w.heap[b]? =some (.cells l.toArray t (0,0))
theorem Rec.lt {w:World} {b:Nat} {l:List Value} (h:Rec w b l):b<w.heap.size:=by
 obtain⟨t,h⟩:=h;exact(Array.getElem?_eq_some_iff.1 h).1
theorem Rec.G {w w':World} {b:Nat} {l:List Value} (h:Rec w b l) (g:G w w'):Rec w' b l:=by
 have hb:=h.lt;obtain⟨t,h⟩:=h;obtain⟨-,-,-,-,g5⟩:=g;exact⟨t,(g5 b hb).trans h⟩
theorem Rec.new (w:World) (l:List Value) (t:TypeId):Rec (w.alloc (.cells l.toArray t)) w.heap.size l:=⟨t,by simp only[World.alloc];exact Array.getElem?_push_size⟩
theorem Rec.new2 (w:World) (x y:Value) (t:TypeId):Rec (w.alloc (.cells #[x,y] t)) w.heap.size [x,y]:=Rec.new w [x,y] t
theorem Rec.new3 (w:World) (x y z:Value) (t:TypeId):Rec (w.alloc (.cells #[x,y,z] t)) w.heap.size [x,y,z]:=Rec.new w [x,y,z] t
/-- Blocks laid one behind the other. -/
theorem q0y (w:World) (a:List Value) (ta:TypeId):∃ w0,w.alloc (.cells a.toArray ta)=w0∧Go.Proofs.YtbfjihniphldaaaGreatDoor.G w w0∧w0.heap.size=w.heap.size+1∧Hid (Rec w0 w.heap.size a):=⟨_,rfl,(Go.Proofs.YtbfjihniphldaaaGreatDoor.G.refl w).alloc _,by simp,Rec.new w a ta⟩
theorem q3Z (w:World) (a b:List Value) (ta tb:TypeId):∃ w0,(w.alloc (.cells a.toArray ta)).alloc (.cells b.toArray tb)=w0∧Go.Proofs.YtbfjihniphldaaaGreatDoor.G w w0∧w0.heap.size=w.heap.size+2∧Hid (Rec w0 w.heap.size a)∧Hid (Rec w0 (w.heap.size+1) b):=by
 obtain⟨w1,e1,g1,z1,ra⟩:=q0y w a ta;obtain⟨w2,e2,g2,z2,r⟩:=q0y w1 b tb;rw[e1];exact⟨w2,e2,Go.Proofs.YtbfjihniphldaaaGreatDoor.G.trans g1 g2,by omega,Rec.G ra.out g2,by rw[← z1];exact r⟩
theorem q30 (w:World) (a b c:List Value) (ta tb tc:TypeId):∃ w0,((w.alloc (.cells a.toArray ta)).alloc (.cells b.toArray tb)).alloc (.cells c.toArray tc)=w0∧Go.Proofs.YtbfjihniphldaaaGreatDoor.G w w0∧w0.heap.size=w.heap.size+3∧Hid (Rec w0 w.heap.size a)∧Hid (Rec w0 (w.heap.size+1) b)∧Hid (Rec w0 (w.heap.size+2) c):=by
 obtain⟨w1,e1,g1,z1,ra,rb⟩:=q3Z w a b ta tb;obtain⟨w2,e2,g2,z2,r⟩:=q0y w1 c tc;rw[e1];exact⟨w2,e2,Go.Proofs.YtbfjihniphldaaaGreatDoor.G.trans g1 g2,by omega,Rec.G ra.out g2,Rec.G rb.out g2,by rw[← z1];exact r⟩
theorem Rec.cell {w:World} {b:Nat} {l:List Value} (h:Rec w b l) (i:Nat):w.cell? ⟨b,i,none⟩=l[i]? :=by
 obtain⟨t,h⟩:=h;simp [World.cell?,h]
theorem Rec.frozen {w:World} {b:Nat} {l:List Value} (h:Rec w b l) (i:Nat):w.frozen? ⟨b,i,none⟩=false:=by
 obtain⟨t,h⟩:=h;simp [World.frozen?,h]
/-- A pointer to a new block. -/
def NewRec (w0 w:World) (v:Value) (l:List Value):Prop:=∃ b,v= .pointer (some ⟨b,0,none⟩)∧w0.heap.size≤b∧Rec w b l
theorem NewRec.G {w0 w w':World} {v:Value} {l:List Value} (h:NewRec w0 w v l) (g:G w w'):NewRec w0 w' v l:=by
 obtain⟨b,e,hb,hr⟩:=h;exact⟨b,e,hb,hr.G g⟩
theorem Rec.f1 {w:World} {b:Nat} {x:Value} (h:Rec w b [x]):w.cell? ⟨b,0,none⟩=some x∧w.frozen? ⟨b,0,none⟩=false:=⟨h.cell 0,h.frozen 0⟩
theorem Rec.f2 {w:World} {b:Nat} {x y:Value} (h:Rec w b [x,y]):w.cell? ⟨b,0,none⟩=some x∧w.cell? ⟨b,1,none⟩=some y∧w.frozen? ⟨b,0,none⟩=false∧w.frozen? ⟨b,1,none⟩=false:=
 ⟨h.cell 0,h.cell 1,h.frozen 0,h.frozen 1⟩
theorem Rec.f3 {w:World} {b:Nat} {x y z:Value} (h:Rec w b [x,y,z]):w.cell? ⟨b,0,none⟩=some x∧w.cell? ⟨b,1,none⟩=some y∧w.cell? ⟨b,2,none⟩=some z∧w.frozen? ⟨b,0,none⟩=false∧w.frozen? ⟨b,1,none⟩=false∧w.frozen? ⟨b,2,none⟩=false:=
 ⟨h.cell 0,h.cell 1,h.cell 2,h.frozen 0,h.frozen 1,h.frozen 2⟩
theorem Rec.set {w:World} {b:Nat} {l:List Value} (h:Rec w b l) (i:Nat) (x:Value):Rec (w.setCell ⟨b,i,none⟩ x) b (l.set i x):=by
 obtain⟨t,h⟩:=h;refine⟨t,?_⟩;simp only[World.setCell,Array.getElem?_modify,if_true,h,Option.map_some];simp
theorem Rec.oth {w:World} {b:Nat} {l:List Value} (h:Rec w b l) {p:Addr} (x:Value) (hne:p.block≠b):Rec (w.setCell p x) b l:=by
 obtain⟨t,h⟩:=h;refine⟨t,?_⟩;simp only[World.setCell,Array.getElem?_modify,if_neg hne];exact h
theorem Rec.set2 {w:World} {b:Nat} {x y x' y':Value} (h:Rec w b [x,y]):Rec ((w.setCell ⟨b,0,none⟩ x').setCell ⟨b,1,none⟩ y') b [x',y']:=(h.set 0 x').set 1 y'
theorem Rec.set3 {w:World} {b:Nat} {x y z x' y' z':Value} (h:Rec w b [x,y,z]):Rec (((w.setCell ⟨b,0,none⟩ x').setCell ⟨b,1,none⟩ y').setCell ⟨b,2,none⟩ z') b [x',y',z']:=((h.set 0 x').set 1 y').set 2 z'
theorem Rec.g1 {w0 w:World} {b:Nat} {u:Value} (g:Go.Proofs.YtbfjihniphldaaaGreatDoor.G w0 w) (h:w0.heap.size≤b):Go.Proofs.YtbfjihniphldaaaGreatDoor.G w0 (w.setCell ⟨b,0,none⟩ u):=g.setCell (p:=⟨b,0,none⟩) h _
theorem Rec.g2 {w0 w:World} {b:Nat} {u v:Value} (g:Go.Proofs.YtbfjihniphldaaaGreatDoor.G w0 w) (h:w0.heap.size≤b):Go.Proofs.YtbfjihniphldaaaGreatDoor.G w0 ((w.setCell ⟨b,0,none⟩ u).setCell ⟨b,1,none⟩ v):=(Rec.g1 g h).setCell (p:=⟨b,1,none⟩) h _
theorem Rec.g3 {w0 w:World} {b:Nat} {u v x:Value} (g:Go.Proofs.YtbfjihniphldaaaGreatDoor.G w0 w) (h:w0.heap.size≤b):Go.Proofs.YtbfjihniphldaaaGreatDoor.G w0 (((w.setCell ⟨b,0,none⟩ u).setCell ⟨b,1,none⟩ v).setCell ⟨b,2,none⟩ x):=(Rec.g2 g h).setCell (p:=⟨b,2,none⟩) h _
end Go.Proofs.YtbfjihniphldaaaGreatDoor
namespace Go.Proofs.YtbfjihniphldaaaGreatDoor
open Go.RowKit
section
variable {P:Program} {ops:Array Oper} {md:Region.Mode} {Q:Exit→Act→World→Prop}
def EachesD (P:Program) (md:Region.Mode) (ops:Array Oper) (done:Array Bool) (R:List Kind) (w0:World) (vs:List Value) (A:Act):Nat→List Oper→List Kind→Prop
 |i,o::l,k::ks=>(done.getD i false=false→Each P md ops R w0 vs A i o k)∧EachesD P md ops done R w0 vs A (i+1) l ks
 |_,_,_=>True
theorem EachesD.get {done:Array Bool} {R:List Kind} {w0:World} {vs:List Value} {A:Act}:∀ {l:List Oper} {ks:List Kind} {n:Nat},EachesD P md ops done R w0 vs A n l ks→∀ {j o k},l[j]? =some o→ks[j]? =some k→done.getD (n+j) false=false→Each P md ops R w0 vs A (n+j) o k:=by
 intro l
 induction l with
 |nil=>intro ks n _ j o k h;simp at h
 |cons o l ih=>
  intro ks n h j o' k' h1 h2 h3;cases ks with
  |nil=>simp at h2
  |cons k ks=>
   cases j with
   |zero=>
    simp only[List.getElem?_cons_zero,Option.some.injEq] at h1 h2;subst h1;subst h2;exact h.1 h3
   |succ j=>
    have:=ih h.2 (by simpa using h1) (by simpa using h2) (by rw[show n+1+j=n+(j+1) from by omega];exact h3)
    rwa[show n+(j+1)=n+1+j from by omega]
theorem EachesD.nil {done:Array Bool} {R:List Kind} {w0:World} {vs:List Value} {A:Act} {i:Nat} {l:List Oper}:EachesD P md ops done R w0 vs A i l []:=by cases l<;>trivial
theorem EachesD.cons {done:Array Bool} {R:List Kind} {w0:World} {vs:List Value} {A:Act} {i:Nat} {l L:List Oper} {o:Oper} {k:Kind} {ks:List Kind} (e:l=o::L) (h:Each P md ops R w0 vs A i o k) (h2:EachesD P md ops done R w0 vs A (i+1) L ks):EachesD P md ops done R w0 vs A i l (k::ks):=by
 subst e;exact⟨fun _=>h,h2⟩
theorem EachesD.skip {done:Array Bool} {R:List Kind} {w0:World} {vs:List Value} {A:Act} {i:Nat} {l L:List Oper} {o:Oper} {k:Kind} {ks:List Kind} (e:l=o::L) (h:done.getD i false=true) (h2:EachesD P md ops done R w0 vs A (i+1) L ks):EachesD P md ops done R w0 vs A i l (k::ks):=by
 subst e;exact⟨fun h3=>by(rw[h] at h3;cases h3),h2⟩
end
end Go.Proofs.YtbfjihniphldaaaGreatDoor
namespace Go.Proofs.YtbfjihniphldaaaGreatDoor.RN
open Go.RowKit
/-- What the value of an operation is: a given one; or one of a kind, in the world behind it and in all later ones. -/
inductive Kind where
 |is (c:Value)
 |any (p:Value→World→Prop)
 |fresh (p:Value→World→Prop)
def Kind.Held:Kind→Value→World→Prop
 | .is c,v,_=>v=c
 | .any p,v,w=>p v w
 | .fresh p,v,w=>p v w∧∃ b,v= .pointer (some ⟨b,0,none⟩)∧b<w.heap.size
/-- The same behind the operation: a block that is new has not been there ahead of it. -/
def Kind.Holds:Kind→Value→World→World→Prop
 | .is c,v,_,_=>v=c
 | .any p,v,_,w'=>p v w'
 | .fresh p,v,w,w'=>p v w'∧∃ b,v= .pointer (some ⟨b,0,none⟩)∧w.heap.size≤b∧b<w'.heap.size
theorem Kind.Holds.held {k:Kind} {v:Value} {w w':World} (h:k.Holds v w w'):k.Held v w':=by
 cases k with
 |is c=>exact h
 |any p=>exact h
 |fresh p=>obtain⟨h1,b,e,-,h3⟩:=h;exact⟨h1,b,e,h3⟩
def Kind.Fresh:Kind→Prop
 | .fresh _=>True
 |_=>False
def Kind.pick:Kind→Value→Value
 | .is c,_=>c
 | .any _,v=>v
 | .fresh _,v=>v
def Kind.Stays:Kind→Prop
 | .is _=>True
 | .any p=>q6E p
 | .fresh p=>q6E p
theorem Kind.Stays.held {k:Kind} (h:k.Stays) {v:Value} {w w':World} (g:G w w') (hv:k.Held v w):k.Held v w':=by
 cases k with
 |is c=>exact hv
 |any p=>exact h v w w' g hv
 |fresh p=>
  obtain⟨h1,b,e,h2⟩:=hv;exact⟨h v w w' g h1,b,e,Nat.lt_of_lt_of_le h2 g.size⟩
def q1j:List Kind→Prop
 |[]=>True
 | .is _::l=>q1j l
 | .any p::l=>q6E p∧q1j l
 | .fresh p::l=>q6E p∧q1j l
theorem q3r:∀ {l:List Kind},q1j l→∀ k∈l,k.Stays:=by
 intro l
 induction l with
 |nil=>intro _ k hk;cases hk
 |cons c l ih=>
  intro h k hk;cases c with
  |is c=>
   rcases List.mem_cons.1 hk with rfl|hk
   ·trivial
   ·exact ih h k hk
  |any p=>
   rcases List.mem_cons.1 hk with rfl|hk
   ·exact h.1
   ·exact ih h.2 k hk
  |fresh p=>
   rcases List.mem_cons.1 hk with rfl|hk
   ·exact h.1
   ·exact ih h.2 k hk
/-- Letters for what isn't given. -/
def Letters:List Kind→(List Value→Prop)→Prop
 |[],T=>T []
 | .is c::l,T=>Letters l fun vs=>T (c::vs)
 | .any _::l,T=>∀ v,Letters l fun vs=>T (v::vs)
 | .fresh _::l,T=>∀ v,Letters l fun vs=>T (v::vs)
theorem Letters.get:∀ {l:List Kind} {T:List Value→Prop},Letters l T→∀ f:Nat→Value,T (l.zipIdx.map fun p=>p.1.pick (f p.2)):=by
 have main:∀ (l:List Kind) (T:List Value→Prop) (n:Nat),Letters l T→∀ f:Nat→Value,T ((l.zipIdx n).map fun p=>p.1.pick (f p.2)):=by
  intro l
  induction l with
  |nil=>intro T n h f;exact h
  |cons k l ih=>
   intro T n h f;cases k with
   |is c=>exact ih _ (n+1) h f
   |any p=>exact ih _ (n+1) (h (f n)) f
   |fresh p=>exact ih _ (n+1) (h (f n)) f
 exact fun {l T} h f=>main l T 0 h f
section
variable {P:Program} {ops:Array Oper} {md:Region.Mode} {Q:Exit→Act→World→Prop}
/-- What is known of what i waits for. -/
def Deps (md:Region.Mode) (ops:Array Oper) (i:Nat) (w:World):Nat→List Kind→List Value→Prop
 |j,.any p::l,v::vs=>(waits md ops i j=true→p v w)∧Deps md ops i w (j+1) l vs
 |j,.fresh p::l,v::vs=>(waits md ops i j=true→p v w)∧Deps md ops i w (j+1) l vs
 |j,.is _::l,_::vs=>Deps md ops i w (j+1) l vs
 |_,_,_=>True
theorem q5p {i:Nat} {w:World} {f:Nat→Value}:∀ {l:List Kind} {n:Nat},(∀ (j:Nat) (k:Kind),l[j]? =some k→waits md ops i (n+j)=true→k.Held (f (n+j)) w)→Deps md ops i w n l ((l.zipIdx n).map fun p=>p.1.pick (f p.2)):=by
 intro l
 induction l with
 |nil=>intro n _;trivial
 |cons k l ih=>
  intro n h;have hr:=ih (n:=n+1) (fun j k hk hw=>by
   have:=h (j+1) k (by simpa using hk) (by rw[← hw];congr 1;omega)
   rwa[show n+1+j=n+(j+1) from by omega])
  cases k with
  |is c=>exact hr
  |any p=>exact⟨fun hw=>h 0 _ rfl hw,hr⟩
  |fresh p=>exact⟨fun hw=>(h 0 _ rfl hw).1,hr⟩
/-- What is known behind them all. -/
def Helds (w:World):List Kind→List Value→Prop
 | .any p::l,v::vs=>p v w∧Helds w l vs
 | .fresh p::l,v::vs=>p v w∧Helds w l vs
 | .is _::l,_::vs=>Helds w l vs
 |_,_=>True
theorem q4t {w:World} {f:Nat→Value}:∀ {l:List Kind} {n:Nat},(∀ (j:Nat) (k:Kind),l[j]? =some k→k.Held (f (n+j)) w)→Helds w l ((l.zipIdx n).map fun p=>p.1.pick (f p.2)):=by
 intro l
 induction l with
 |nil=>intro n _;trivial
 |cons k l ih=>
  intro n h;have hr:=ih (n:=n+1) (fun j k hk=>by
   have:=h (j+1) k (by simpa using hk)
   rwa[show n+1+j=n+(j+1) from by omega])
  cases k with
  |is c=>exact hr
  |any p=>exact⟨h 0 _ rfl,hr⟩
  |fresh p=>exact⟨(h 0 _ rfl).1,hr⟩
/-- New blocks are none of each other. -/
def Apart (R:List Kind) (vs:List Value):Prop:=∀ (i j:Nat) (k k':Kind) (u v:Value),i≠j→R[i]? =some k→R[j]? =some k'→k.Fresh→k'.Fresh→vs[i]? =some u→vs[j]? =some v→u≠v
/-- What is to be shown of operation i. -/
def Each (P:Program) (md:Region.Mode) (ops:Array Oper) (R:List Kind) (w0:World) (vs:List Value) (A:Act) (i:Nat) (o:Oper) (k:Kind):Prop:=
 ∀ w,G w0 w→Deps md ops i w 0 R vs→∀ K:Act→World→Prop,Hid (∀ a' w',(∃ v,a'=A.put o.dst v∧G w w'∧k.Holds v w w')→K a' w')→
  if Region.wanted o (yielded ops A.tmps)=true then Oper.wp P o A w K noQ else K (A.put o.dst undef) w
def Eaches (P:Program) (md:Region.Mode) (ops:Array Oper) (R:List Kind) (w0:World) (vs:List Value) (A:Act):Nat→List Oper→List Kind→Prop
 |i,o::l,k::ks=>Each P md ops R w0 vs A i o k∧Eaches P md ops R w0 vs A (i+1) l ks
 |_,_,_=>True
theorem Eaches.get {R:List Kind} {w0:World} {vs:List Value} {A:Act}:∀ {l:List Oper} {ks:List Kind} {n:Nat},Eaches P md ops R w0 vs A n l ks→∀ {j o k},l[j]? =some o→ks[j]? =some k→Each P md ops R w0 vs A (n+j) o k:=by
 intro l
 induction l with
 |nil=>intro ks n _ j o k h;simp at h
 |cons o l ih=>
  intro ks n h j o' k' h1 h2;cases ks with
  |nil=>simp at h2
  |cons k ks=>
   cases j with
   |zero=>
    simp only[List.getElem?_cons_zero,Option.some.injEq] at h1 h2;subst h1;subst h2;exact h.1
   |succ j=>
    have:=ih h.2 (by simpa using h1) (by simpa using h2)
    rwa[show n+(j+1)=n+1+j from by omega]
theorem q5D {R:List Kind} {np:Nat} {a:Act} {w0:World} (hok:q1X md ops np=true) (hR:R.length=np) (hst:∀ k∈R,k.Stays)
  (H:∀ f:Nat→Value,Eaches P md ops R w0 (R.zipIdx.map fun p=>p.1.pick (f p.2)) (laid ops (fun i=>((R[i]?).map (·.pick (f i))).getD undef) (fun _=>true) a np) 0 (ops.toList.take np) R)
  {dN:Nat} (sV:∀ (f:Nat→Value) w,G w0 w→(∀ (j:Nat) (k:Kind),R[j]? =some k→k.Held (f j) w)→(∀ (i j:Nat) (k k':Kind),i≠j→R[i]? =some k→R[j]? =some k'→k.Fresh→k'.Fresh→f i≠f j)→∀ listed:Array Bool,listed.size=ops.size→(∀ j,j<np→listed.getD j false=true)→(∀ j,np≤j→listed.getD j false=false)→
   wpAny P md ops Q dN listed (laid ops f (fun _=>true) a np) w):
  ∀ (m:Nat) (listed:Array Bool) (f:Nat→Value) (w:World),listed.size=ops.size→Closed md ops listed→(∀ j,np≤j→listed.getD j false=false)→
   ((List.range np).countP fun j=> !listed.getD j false)=m→G w0 w→(∀ (j:Nat) (k:Kind),R[j]? =some k→listed.getD j false=true→k.Held (f j) w)→(∀ (i j:Nat) (k k':Kind),i≠j→R[i]? =some k→R[j]? =some k'→k.Fresh→k'.Fresh→listed.getD i false=true→listed.getD j false=true→f i≠f j)→
   wpAny P md ops Q (dN+m) listed (laid ops f (fun j=>listed.getD j false) a np) w:=by
 unfold q1X at hok;simp only[Bool.and_eq_true,Bool.or_eq_true,beq_iff_eq,decide_eq_true_eq] at hok;obtain⟨⟨⟨⟨⟨hgate,uw⟩,hsel⟩,hdst⟩,hback⟩,jc⟩:=hok;have jd:∀ i j,i<np→j<np→j≠i→∀ d,q1d ops i=some d→q1d ops j≠some d:=by
  intro i j hi hj hne d h1 h2;simp only[List.all_eq_true,List.mem_range,Bool.or_eq_true,beq_iff_eq,bne_iff_ne,ne_eq] at hdst;rcases hdst i hi j hj with (h|h)|h
  ·exact hne h.symm
  ·rw[h1] at h;simp at h
  ·exact h (by rw[h1,h2])
 have jL:∀ i j o t,i<np→j<np→ops[i]? =some o→q1d ops j=some t→t∈o.looksAt ops→waits md ops i j=true:=by
  intro i j o t hi hj ho hd ht;simp only[List.all_eq_true,List.mem_range] at jc;have h1:=jc i hi;rw[ho] at h1;simp only[List.all_eq_true,List.mem_range] at h1;have h2:=h1 j hj;rw[hd] at h2;simpa [ht] using h2
 intro m
 induction m with
 |zero=>
  intro listed f w hsz hc hge hm hG hh hap;have hall:∀ j,j<np→listed.getD j false=true:=by
   intro j hj;rw[List.countP_eq_zero] at hm;have:=hm j (List.mem_range.2 hj);simpa using this
  have e:laid ops f (fun j=>listed.getD j false) a np=laid ops f (fun _=>true) a np:=q18 a np fun j hj=>⟨hall j hj,fun _=>rfl⟩;rw[e];exact sV f w hG (fun j k hk=>hh j k hk (hall j (by rw[← hR];exact(List.getElem?_eq_some_iff.1 hk).1))) (fun i j k k' hij h1 h2 h3 h4=>hap i j k k' hij h1 h2 h3 h4 (hall i (by rw[← hR];exact(List.getElem?_eq_some_iff.1 h1).1)) (hall j (by rw[← hR];exact(List.getElem?_eq_some_iff.1 h2).1))) listed hsz hall hge
 |succ m ih=>
  intro listed f w hsz hc hge hm hG hh hap;obtain⟨i0,hi0,hu0⟩:∃ i,i<np∧listed.getD i false=false:=by
   have:0<(List.range np).countP fun j=> !listed.getD j false:=by omega
   rw[List.countP_pos_iff] at this;obtain⟨j,h1,h2⟩:=this;exact⟨j,List.mem_range.1 h1,by simpa using h2⟩
  -- the least one that is not listed may come up
  have hpre:∀ j,j∈Region.ready md ops listed→j<np:=by
   intro j hj;obtain⟨-,o,ho,-⟩:=mem_ready.1 hj;have hjs:j<ops.size:=(Array.getElem?_eq_some_iff.1 ho).1;rcases hgate with h|h
   ·omega
   ·exact q2b hc h hi0 hu0 hj
  refine⟨fun h0=> ?_,fun i hi=> ?_⟩
  ·exfalso;obtain⟨i,hi,hu,hmin⟩:=q1I hi0 hu0;have his:i<ops.size:=by omega
   have ho:ops[i]? =some ops[i]:=Array.getElem?_eq_getElem his;have hmem:i∈Region.ready md ops listed:=mem_ready.2 ⟨by simp only[Array.getD_eq_getD_getElem?,Array.getElem?_eq_getElem (show i<listed.size by omega),Option.getD_some] at hu ⊢;exact hu,ops[i],ho,fun e he hb=>by
    simp only[List.all_eq_true,List.mem_range] at hback;have h1:=hback i hi;rw[ho] at h1;simp only[Array.all_eq_true_iff_forall_mem] at h1;have h2:=h1 e he;simp only[hb,Bool.not_true,Bool.false_or,decide_eq_true_eq] at h2;exact hmin _ h2⟩
   rw[h0] at hmem;cases hmem
  ·have hin:=hpre i hi;obtain⟨wI,o,ho,hall⟩:=mem_ready.1 hi;have vR:=q0r wI;have his:i<ops.size:=by omega
   obtain⟨k,hk⟩:∃ k,R[i]? =some k:=⟨R[i]'(by omega),List.getElem?_eq_getElem (by omega)⟩;have hE:=(H f).get (j:=i) (o:=o) (k:=k) (by rw[List.getElem?_take,if_pos hin];simpa using ho) hk;rw[Nat.zero_add] at hE;have hD:Deps md ops i w 0 R (R.zipIdx.map fun p=>p.1.pick (f p.2)):=q5p (n:=0) fun j k hk hw=>by
    rw[Nat.zero_add] at hw ⊢;exact hh j k hk (q0E hi hw)
   have Kw:∀ (j:Nat) (k:Kind),R[j]? =some k→listed.getD j false=true→k.pick (f j)=f j:=fun j k hk hl=>by
    have:=hh j k hk hl;cases k with
    |is c=>exact this.symm
    |any p=>rfl
    |fresh p=>rfl
   obtain⟨A,hA⟩:∃ A,A=laid ops (fun i=>((R[i]?).map (·.pick (f i))).getD undef) (fun _=>true) a np:=⟨_,rfl⟩;rw[← hA] at hE;have hget:∀ t,t∈o.looksAt ops→A.tmps[t]? =(laid ops f (fun j=>listed.getD j false) a np).tmps[t]? :=by
    intro t ht;have e1:laid ops f (fun j=>listed.getD j false) a np=laid ops (fun i=>((R[i]?).map (·.pick (f i))).getD undef) (fun j=>listed.getD j false) a np:=q18 a np fun j hj=>⟨rfl,fun hl=>by
     have hkj:R[j]? =some (R[j]'(by omega)):=List.getElem?_eq_getElem (by omega);rw[hkj];simp only[Option.map_some,Option.getD_some];exact(Kw j _ hkj hl).symm⟩
    rw[e1,hA];refine q4p a np (fun j hj hd=> ?_) (fun j j' hj hj' h1 h2=> ?_)
    ·exact(q0E hi (jL i j o t hin hj ho hd ht)).symm
    ·by_cases hjj:j'=j
     ·exact hjj.symm
     ·exact absurd h2 (jd j j' hj hj' hjj t h1)
   have hsA:A.tmps.size=(laid ops f (fun j=>listed.getD j false) a np).tmps.size:=by rw[hA,q1B,q1B]
   have hex:execOp (laid ops f (fun j=>listed.getD j false) a np).eval o=execOp A.eval o:=by
    refine execOp_congr o (fun cs b=>Region.noSelect_spec hsel i o cs b ho) fun x hx=> ?_;cases x with
    |tmp t=>
     have:=hget t (List.mem_append_left _ (List.mem_filterMap.2 ⟨.tmp t,by simpa using hx,rfl⟩));simp [Act.eval,this]
    |_=>rfl
   have EB:Region.wanted o (yielded ops (laid ops f (fun j=>listed.getD j false) a np).tmps)=Region.wanted o (yielded ops A.tmps):=by
    unfold Region.wanted;cases hg:o.guard with
    |none=>rfl
    |some gw=>
     obtain⟨g,want⟩:=gw;have:yielded ops (laid ops f (fun j=>listed.getD j false) a np).tmps g=yielded ops A.tmps g:=by
      unfold yielded;cases ht:(ops[g]?).bind (·.dst) with
      |none=>rfl
      |some t=>
       have h1:=hget t (by simp [Oper.looksAt,hg,ht]);simp [h1]
     simp only[this]
   have hnext:∀ v w',(G w w'∧k.Holds v w w')→wpAny P md ops Q (dN+m) (listed.setIfInBounds i true) ((laid ops f (fun j=>listed.getD j false) a np).put o.dst v) w':=by
    rintro v w' ⟨g,hv⟩;have e1:o.dst=q1d ops i:=by simp [q1d,ho]
    rw[e1,← q4h a v vR np hin (fun j hj hne=>jd i j hin hj hne)];have e2:(fun j=>if j=i then true else listed.getD j false)=fun j=>(listed.setIfInBounds i true).getD j false:=by
     funext j
     by_cases hji:j=i
     ·subst hji;simp;omega
     ·rw[getD_set_ne false (Ne.symm hji),if_neg hji]
    rw[e2];refine ih _ _ w' (by simpa using hsz) (hc.set hi) (fun j hj=> ?_) ?_ (hG.trans g) (fun j k' hk' hl=> ?_) (fun j j' k1 k2 hjj hk1 hk2 hf1 hf2 hl1 hl2=> ?_)
    ·rw[getD_set_ne false (by omega)];exact hge j hj
    ·have h5:=q3o (l:=fun j=>listed.getD j false) (m:=m) (np:=np) hin vR hm;have e3:(fun j=> !(if j=i then true else listed.getD j false))=fun j=> !(listed.setIfInBounds i true).getD j false:=by
      funext j
      exact congrArg (fun b=> !b) (congrFun e2 j)
     rw[← e3];exact h5
    ·by_cases hji:j=i
     ·subst hji;rw[hk] at hk';cases hk';simpa using hv.held
     ·rw[getD_set_ne false (Ne.symm hji)] at hl;have hm1:k'∈R:=List.mem_of_getElem? hk';simpa [hji] using (hst k' hm1).held g (hh j k' hk' hl)
    ·have old:∀ (q:Nat) (k3:Kind),R[q]? =some k3→k3.Fresh→q≠i→(listed.setIfInBounds i true).getD q false=true→f q≠v∨¬ k.Fresh:=by
      intro q k3 hq hf3 hqi hl;rw[getD_set_ne false (Ne.symm hqi)] at hl;have h1:=hh q k3 hq hl;by_cases Le:k.Fresh
      ·left;cases k with
       |is c=>exact Le.elim
       |any p=>exact Le.elim
       |fresh p=>
        cases k3 with
        |is c=>exact hf3.elim
        |any p=>exact hf3.elim
        |fresh p3=>
         obtain⟨-,b,e,hb,-⟩:=hv;obtain⟨-,b',e',hb'⟩:=h1;intro h;rw[e,e'] at h;injection h with h;injection h with h;injection h with h;omega
      ·exact Or.inr Le
     by_cases hji:j=i
     ·subst hji;have hne:j'≠j:=fun h=>hjj h.symm;rw[hk] at hk1;cases hk1;have h2:=(old j' k2 hk2 hf2 hne hl2).resolve_right (fun h=>h hf1);simp only[if_true,hne,if_false];exact h2.symm
     ·by_cases Ao:j'=i
      ·subst Ao;rw[hk] at hk2;cases hk2;have h2:=(old j k1 hk1 hf1 hji hl1).resolve_right (fun h=>h hf2);simp only[if_true,hji,if_false];exact h2
      ·rw[getD_set_ne false (Ne.symm hji)] at hl1;rw[getD_set_ne false (Ne.symm Ao)] at hl2;simp only[hji,Ao,if_false];exact hap j j' k1 k2 hjj hk1 hk2 hf1 hf2 hl1 hl2
   have hE2:=hE w hG hD (fun a' w'=>∃ v,a'=A.put o.dst v∧G w w'∧k.Holds v w w') (fun a' w' h=>h);unfold wpOp;rw[ho];simp only[EB];split
   ·rename_i hw
    simp only[hw,if_true] at hE2;left;unfold Oper.wp at hE2 ⊢;rw[hex];exact q3p (H:=fun v w'=>G w w'∧k.Holds v w w') hsA hE2 hnext
   ·rename_i hw
    simp only[hw,Bool.false_eq_true,if_false] at hE2;obtain⟨v,h1,h2⟩:=hE2;rw[q4o hsA h1];exact hnext v w h2
/-- What is to be shown: of each operation, and from behind them all on. -/
def q48 (P:Program) (ops:Array Oper) (Q:Exit→Act→World→Prop) (np m:Nat) (ls:Array Bool) (R:List Kind) (ds:List (Option Tmp)) (a:Act) (w:World) (vs:List Value):Prop:=
 ∀ A,A=q0W ds vs a→Eaches P .any ops R w vs A 0 (ops.toList.take np) R∧
   ∀ w',G w w'→Helds w' R vs→Apart R vs→wpAny P .any ops Q m ls A w'
/-- A region that draws its order: its first np operations, each of which leaves standing what was there, once each; then what is behind the gate. -/
theorem q09 {id:Nat} {a:Act} {w:World} (np m:Nat) (ls:Array Bool) (R:List Kind) (ds:List (Option Tmp)) (hm:P.follows .mixedOrders=true) (hok:q1X .any ops np=true) (hR:R.length=np) (hd:(ops.toList.take np).map (·.dst)=ds) (hst:q1j R)
  (hsm:ops.size=np+m) (hls:Array.replicate np true++Array.replicate m false=ls) (h:Letters R (q48 P ops Q np m ls R ds a w)):
  (Code.region id ops true).wp P Q a w:=by
 refine wp_region_any hm ?_;have uw:np≤ops.size:=by
  unfold q1X at hok;simp only[Bool.and_eq_true,decide_eq_true_eq] at hok;exact hok.1.1.1.1.2
 have hl:(ops.toList.take np).length=np:=by simp;omega
 have hlaid:∀ f:Nat→Value,q0W ds (R.zipIdx.map fun p=>p.1.pick (f p.2)) a=laid ops (fun i=>((R[i]?).map (·.pick (f i))).getD undef) (fun _=>true) a np:=by
  intro f;rw[← hd,← q5t];have:=q3f (ops:=ops) (fun i=>((R[i]?).map (·.pick (f i))).getD undef) a (ops.toList.take np) [] (R.zipIdx.map fun p=>p.1.pick (f p.2)) a
   (by simp) (by
    rw[hl];refine List.ext_getElem (by simp [hR]) fun i h1 h2=> ?_;have hi:i<R.length:=by simpa using h1
    simp [hi]) rfl
  simpa [hl,Nat.min_eq_left uw] using this
 have key:=q5D (P:=P) (md:= .any) (ops:=ops) (Q:=Q) (R:=R) (np:=np) (a:=a) (w0:=w) hok hR (q3r hst) (fun f=>by
   have h1:=(h.get f _ (hlaid f).symm).1;exact h1) (dN:=m) (fun f w' g hh hfr listed hsz hlt hge=>by
   have hp:∀ (j:Nat) (k:Kind),R[j]? =some k→k.pick (f j)=f j:=fun j k hk=>by
    have:=hh j k hk;cases k with
    |is c=>exact this.symm
    |any p=>rfl
    |fresh p=>rfl
   have h2:=(h.get f _ (hlaid f).symm).2 w' g (q4t (n:=0) (f:=f) fun j k hk=>by rw[Nat.zero_add];exact hh j k hk) (by
    intro i j k k' u v hij h1 h2 h3 h4 h5 h6;have key:∀ (q:Nat) (kq:Kind) (x:Value),R[q]? =some kq→kq.Fresh→(R.zipIdx.map fun p=>p.1.pick (f p.2))[q]? =some x→x=f q:=by
     intro q kq x hq hf hx;cases kq with
     |is c=>exact hf.elim
     |any p=>exact hf.elim
     |fresh p=>
      have hq':q<R.length:=(List.getElem?_eq_some_iff.1 hq).1;have e1:R[q]= .fresh p:=(List.getElem?_eq_some_iff.1 hq).2;simp [hq',e1,Kind.pick] at hx;exact hx.symm
    rw[key i k u h1 h3 h5,key j k' v h2 h4 h6];exact hfr i j k k' hij h1 h2 h3 h4)
   have e1:laid ops f (fun _=>true) a np=laid ops (fun i=>((R[i]?).map (·.pick (f i))).getD undef) (fun _=>true) a np:=q18 a np fun j hj=>⟨rfl,fun _=>by
    have hkj:R[j]? =some (R[j]'(by omega)):=List.getElem?_eq_getElem (by omega);rw[hkj];simp only[Option.map_some,Option.getD_some];exact(hp j _ hkj).symm⟩
   have e2:listed=ls:=by
    rw[← hls];refine Array.ext (by simp [hsz];omega) fun j h1 h2=> ?_;have e3:listed[j]=listed.getD j false:=by simp [h1]
    rw[e3];by_cases hj:j<np
    ·rw[hlt j hj,Array.getElem_append_left (by simpa using hj)];simp
    ·rw[hge j (by omega),Array.getElem_append_right (by simpa using hj)];simp
   rw[e1,e2];exact h2) np (Array.replicate ops.size false) (fun _=>undef) w.drew (by simp) (fun j k hj _=>by
    by_cases hjs:j<ops.size<;>simp [hjs] at hj) (fun j _=>by by_cases hjs:j<ops.size<;>simp [hjs]) (by
    have:∀ n,((List.range n).countP fun j=> !(Array.replicate ops.size false).getD j false)=n:=by
     intro n;rw[List.countP_eq_length.2,List.length_range];intro j _;by_cases hjs:j<ops.size<;>simp [hjs]
    exact this np) (G.refl _).drew (fun j k _ hj=>by by_cases hjs:j<ops.size<;>simp [hjs] at hj) (fun i j k k' _ _ _ _ _ hl _=>by by_cases hjs:i<ops.size<;>simp [hjs] at hl)
 have e:laid ops (fun _=>undef) (fun j=>(Array.replicate ops.size false).getD j false) a np=a:=by
  have:∀ n,laid ops (fun _=>undef) (fun j=>(Array.replicate ops.size false).getD j false) a n=a:=by
   intro n
   induction n with
   |zero=>rfl
   |succ n ih=>
    have e0:(Array.replicate ops.size false).getD n false=false:=by by_cases hjs:n<ops.size<;>simp [hjs]
    simp only[laid,e0,Bool.false_eq_true,if_false,ih]
  exact this np
 rw[e] at key;rw[show m+np=ops.size from by omega] at key;exact key
theorem Letters.nil {T:List Value→Prop} (h:T []):Letters [] T:=h
theorem Letters.is {c:Value} {l:List Kind} {T:List Value→Prop} (h:Letters l fun vs=>T (c::vs)):Letters (.is c::l) T:=h
theorem Letters.fresh {p:Value→World→Prop} {l:List Kind} {T:List Value→Prop} (h:∀ v,Letters l fun vs=>T (v::vs)):Letters (.fresh p::l) T:=h
theorem Letters.any {p:Value→World→Prop} {l:List Kind} {T:List Value→Prop} (h:∀ v,Letters l fun vs=>T (v::vs)):Letters (.any p::l) T:=h
theorem Eaches.nil {R:List Kind} {w0:World} {vs:List Value} {A:Act} {i:Nat} {l:List Oper}:Eaches P md ops R w0 vs A i l []:=by cases l<;>trivial
theorem Eaches.cons {R:List Kind} {w0:World} {vs:List Value} {A:Act} {i:Nat} {l L:List Oper} {o:Oper} {k:Kind} {ks:List Kind} (e:l=o::L) (h:Each P md ops R w0 vs A i o k) (h2:Eaches P md ops R w0 vs A (i+1) L ks):Eaches P md ops R w0 vs A i l (k::ks):=by
 subst e;exact⟨h,h2⟩
theorem Deps.get {i:Nat} {w:World} {p:Value→World→Prop} {v:Value}:∀ {R:List Kind} {vs:List Value} {n:Nat} (j:Nat),Deps md ops i w n R vs→R[j]? =some (.any p)→vs[j]? =some v→waits md ops i (n+j)=true→p v w:=by
 intro R
 induction R with
 |nil=>intro vs n j _ h;simp at h
 |cons k R ih=>
  intro vs n j h h1 h2 h3;cases vs with
  |nil=>simp at h2
  |cons u vs=>
   cases j with
   |zero=>
    simp only[List.getElem?_cons_zero,Option.some.injEq] at h1 h2;subst h1;subst h2;exact h.1 h3
   |succ j=>
    have h3':waits md ops i (n+1+j)=true:=by rw[← h3];congr 1;omega
    cases k with
    |is c=>exact ih j h (by simpa using h1) (by simpa using h2) h3'
    |any q=>exact ih j h.2 (by simpa using h1) (by simpa using h2) h3'
    |fresh q=>exact ih j h.2 (by simpa using h1) (by simpa using h2) h3'
theorem Helds.get {w:World} {p:Value→World→Prop} {v:Value}:∀ {R:List Kind} {vs:List Value} (j:Nat),Helds w R vs→R[j]? =some (.any p)→vs[j]? =some v→p v w:=by
 intro R
 induction R with
 |nil=>intro vs j _ h;simp at h
 |cons k R ih=>
  intro vs j h h1 h2;cases vs with
  |nil=>simp at h2
  |cons u vs=>
   cases j with
   |zero=>
    simp only[List.getElem?_cons_zero,Option.some.injEq] at h1 h2;subst h1;subst h2;exact h.1
   |succ j=>
    cases k with
    |is c=>exact ih j h (by simpa using h1) (by simpa using h2)
    |any q=>exact ih j h.2 (by simpa using h1) (by simpa using h2)
    |fresh q=>exact ih j h.2 (by simpa using h1) (by simpa using h2)
end
end Go.Proofs.YtbfjihniphldaaaGreatDoor.RN
namespace Go.Proofs.YtbfjihniphldaaaGreatDoor.RV
open Go.RowKit
section
variable {P:Program} {ops:Array Oper} {md:Region.Mode} {Q:Exit→Act→World→Prop}
/-- What is to be shown of operation i: what holds ahead of it holds behind it. -/
def One (P:Program) (md:Region.Mode) (ops:Array Oper) (Inv:(Nat→Bool)→(Nat→Value)→World→Prop) (A:(Nat→Value)→Act) (i:Nat) (o:Oper):Prop:=
 ∀ (L:Nat→Bool) (f:Nat→Value) (w:World),Inv L f w→L i=false→(∀ j,waits md ops i j=true→L j=true)→∀ K:Act→World→Prop,Hid (∀ a' w',(∃ v,a'=(A f).put o.dst v∧Inv (fun j=>if j=i then true else L j) (fun j=>if j=i then v else f j) w')→K a' w')→
  if Region.wanted o (yielded ops (A f).tmps)=true then Oper.wp P o (A f) w K noQ else K ((A f).put o.dst undef) w
def Ones (P:Program) (md:Region.Mode) (ops:Array Oper) (Inv:(Nat→Bool)→(Nat→Value)→World→Prop) (A:(Nat→Value)→Act):Nat→List Oper→Prop
 |i,o::l=>One P md ops Inv A i o∧Ones P md ops Inv A (i+1) l
 |_,[]=>True
theorem Ones.get {Inv:(Nat→Bool)→(Nat→Value)→World→Prop} {A:(Nat→Value)→Act}:∀ {l:List Oper} {n:Nat},Ones P md ops Inv A n l→∀ {j o},l[j]? =some o→One P md ops Inv A (n+j) o:=by
 intro l
 induction l with
 |nil=>intro n _ j o h;simp at h
 |cons o l ih=>
  intro n h j o' h1;cases j with
  |zero=>
   simp only[List.getElem?_cons_zero,Option.some.injEq] at h1;subst h1;exact h.1
  |succ j=>
   have:=ih h.2 (by simpa using h1)
   rwa[show n+(j+1)=n+1+j from by omega]
theorem Ones.nil {Inv:(Nat→Bool)→(Nat→Value)→World→Prop} {A:(Nat→Value)→Act} {i:Nat}:Ones P md ops Inv A i []:=trivial
theorem Ones.cons {Inv:(Nat→Bool)→(Nat→Value)→World→Prop} {A:(Nat→Value)→Act} {i:Nat} {l L:List Oper} {o:Oper} (e:l=o::L) (h:One P md ops Inv A i o) (h2:Ones P md ops Inv A (i+1) L):Ones P md ops Inv A i l:=by
 subst e;exact⟨h,h2⟩
theorem qbG {Inv:(Nat→Bool)→(Nat→Value)→World→Prop} {np:Nat} {a:Act} (hok:q1X md ops np=true)
  (H:∀ (i:Nat) (o:Oper),i<np→ops[i]? =some o→One P md ops Inv (fun f=>laid ops f (fun _=>true) a np) i o)
  {dN:Nat} (sV:∀ (f:Nat→Value) (L:Nat→Bool) w,Inv L f w→(∀ j,j<np→L j=true)→∀ listed:Array Bool,listed.size=ops.size→(∀ j,j<np→listed.getD j false=true)→(∀ j,np≤j→listed.getD j false=false)→
   wpAny P md ops Q dN listed (laid ops f (fun _=>true) a np) w):
  ∀ (m:Nat) (listed:Array Bool) (f:Nat→Value) (w:World),listed.size=ops.size→Closed md ops listed→(∀ j,np≤j→listed.getD j false=false)→
   ((List.range np).countP fun j=> !listed.getD j false)=m→Inv (fun j=>listed.getD j false) f w→
   wpAny P md ops Q (dN+m) listed (laid ops f (fun j=>listed.getD j false) a np) w:=by
 unfold q1X at hok;simp only[Bool.and_eq_true,Bool.or_eq_true,beq_iff_eq,decide_eq_true_eq] at hok;obtain⟨⟨⟨⟨⟨hgate,uw⟩,hsel⟩,hdst⟩,hback⟩,jc⟩:=hok;have jd:∀ i j,i<np→j<np→j≠i→∀ d,q1d ops i=some d→q1d ops j≠some d:=by
  intro i j hi hj hne d h1 h2;simp only[List.all_eq_true,List.mem_range,Bool.or_eq_true,beq_iff_eq,bne_iff_ne,ne_eq] at hdst;rcases hdst i hi j hj with (h|h)|h
  ·exact hne h.symm
  ·rw[h1] at h;simp at h
  ·exact h (by rw[h1,h2])
 have jL:∀ i j o t,i<np→j<np→ops[i]? =some o→q1d ops j=some t→t∈o.looksAt ops→waits md ops i j=true:=by
  intro i j o t hi hj ho hd ht;simp only[List.all_eq_true,List.mem_range] at jc;have h1:=jc i hi;rw[ho] at h1;simp only[List.all_eq_true,List.mem_range] at h1;have h2:=h1 j hj;rw[hd] at h2;simpa [ht] using h2
 intro m
 induction m with
 |zero=>
  intro listed f w hsz hc hge hm hI;have hall:∀ j,j<np→listed.getD j false=true:=by
   intro j hj;rw[List.countP_eq_zero] at hm;have:=hm j (List.mem_range.2 hj);simpa using this
  have e:laid ops f (fun j=>listed.getD j false) a np=laid ops f (fun _=>true) a np:=q18 a np fun j hj=>⟨hall j hj,fun _=>rfl⟩;rw[e];exact sV f _ w hI hall listed hsz hall hge
 |succ m ih=>
  intro listed f w hsz hc hge hm hI;obtain⟨i0,hi0,hu0⟩:∃ i,i<np∧listed.getD i false=false:=by
   have:0<(List.range np).countP fun j=> !listed.getD j false:=by omega
   rw[List.countP_pos_iff] at this;obtain⟨j,h1,h2⟩:=this;exact⟨j,List.mem_range.1 h1,by simpa using h2⟩
  -- the least one that is not listed may come up
  have hpre:∀ j,j∈Region.ready md ops listed→j<np:=by
   intro j hj;obtain⟨-,o,ho,-⟩:=mem_ready.1 hj;have hjs:j<ops.size:=(Array.getElem?_eq_some_iff.1 ho).1;rcases hgate with h|h
   ·omega
   ·exact q2b hc h hi0 hu0 hj
  refine⟨fun h0=> ?_,fun i hi=> ?_⟩
  ·exfalso;obtain⟨i,hi,hu,hmin⟩:=q1I hi0 hu0;have his:i<ops.size:=by omega
   have ho:ops[i]? =some ops[i]:=Array.getElem?_eq_getElem his;have hmem:i∈Region.ready md ops listed:=mem_ready.2 ⟨by simp only[Array.getD_eq_getD_getElem?,Array.getElem?_eq_getElem (show i<listed.size by omega),Option.getD_some] at hu ⊢;exact hu,ops[i],ho,fun e he hb=>by
    simp only[List.all_eq_true,List.mem_range] at hback;have h1:=hback i hi;rw[ho] at h1;simp only[Array.all_eq_true_iff_forall_mem] at h1;have h2:=h1 e he;simp only[hb,Bool.not_true,Bool.false_or,decide_eq_true_eq] at h2;exact hmin _ h2⟩
   rw[h0] at hmem;cases hmem
  ·have hin:=hpre i hi;obtain⟨wI,o,ho,hall⟩:=mem_ready.1 hi;have vR:=q0r wI;have his:i<ops.size:=by omega
   have hE:=H i o hin ho (fun j=>listed.getD j false) f w hI vR (fun j hw=>q0E hi hw);obtain⟨A,hA⟩:∃ A,A=laid ops f (fun _=>true) a np:=⟨_,rfl⟩;simp only[← hA] at hE;have hget:∀ t,t∈o.looksAt ops→A.tmps[t]? =(laid ops f (fun j=>listed.getD j false) a np).tmps[t]? :=by
    intro t ht;rw[hA];refine q4p a np (fun j hj hd=> ?_) (fun j j' hj hj' h1 h2=> ?_)
    ·exact(q0E hi (jL i j o t hin hj ho hd ht)).symm
    ·by_cases hjj:j'=j
     ·exact hjj.symm
     ·exact absurd h2 (jd j j' hj hj' hjj t h1)
   have hsA:A.tmps.size=(laid ops f (fun j=>listed.getD j false) a np).tmps.size:=by rw[hA,q1B,q1B]
   have hex:execOp (laid ops f (fun j=>listed.getD j false) a np).eval o=execOp A.eval o:=by
    refine execOp_congr o (fun cs b=>Region.noSelect_spec hsel i o cs b ho) fun x hx=> ?_;cases x with
    |tmp t=>
     have:=hget t (List.mem_append_left _ (List.mem_filterMap.2 ⟨.tmp t,by simpa using hx,rfl⟩));simp [Act.eval,this]
    |_=>rfl
   have EB:Region.wanted o (yielded ops (laid ops f (fun j=>listed.getD j false) a np).tmps)=Region.wanted o (yielded ops A.tmps):=by
    unfold Region.wanted;cases hg:o.guard with
    |none=>rfl
    |some gw=>
     obtain⟨g,want⟩:=gw;have:yielded ops (laid ops f (fun j=>listed.getD j false) a np).tmps g=yielded ops A.tmps g:=by
      unfold yielded;cases ht:(ops[g]?).bind (·.dst) with
      |none=>rfl
      |some t=>
       have h1:=hget t (by simp [Oper.looksAt,hg,ht]);simp [h1]
     simp only[this]
   have hnext:∀ v w',Inv (fun j=>if j=i then true else listed.getD j false) (fun j=>if j=i then v else f j) w'→wpAny P md ops Q (dN+m) (listed.setIfInBounds i true) ((laid ops f (fun j=>listed.getD j false) a np).put o.dst v) w':=by
    intro v w' hv;have e1:o.dst=q1d ops i:=by simp [q1d,ho]
    rw[e1,← q4h a v vR np hin (fun j hj hne=>jd i j hin hj hne)];have e2:(fun j=>if j=i then true else listed.getD j false)=fun j=>(listed.setIfInBounds i true).getD j false:=by
     funext j
     by_cases hji:j=i
     ·subst hji;simp;omega
     ·rw[getD_set_ne false (Ne.symm hji),if_neg hji]
    rw[e2] at hv ⊢;refine ih _ _ w' (by simpa using hsz) (hc.set hi) (fun j hj=> ?_) ?_ hv
    ·rw[getD_set_ne false (by omega)];exact hge j hj
    ·have h5:=q3o (l:=fun j=>listed.getD j false) (m:=m) (np:=np) hin vR hm;have e3:(fun j=> !(if j=i then true else listed.getD j false))=fun j=> !(listed.setIfInBounds i true).getD j false:=by
      funext j
      exact congrArg (fun b=> !b) (congrFun e2 j)
     rw[← e3];exact h5
   have hE2:=hE (fun a' w'=>∃ v,a'=A.put o.dst v∧Inv (fun j=>if j=i then true else listed.getD j false) (fun j=>if j=i then v else f j) w') (fun a' w' h=>h);unfold wpOp;rw[ho];simp only[EB];split
   ·rename_i hw
    simp only[hw,if_true] at hE2;left;unfold Oper.wp at hE2 ⊢;rw[hex];exact q3p (H:=fun v w'=>Inv (fun j=>if j=i then true else listed.getD j false) (fun j=>if j=i then v else f j) w') hsA hE2 hnext
   ·rename_i hw
    simp only[hw,Bool.false_eq_true,if_false] at hE2;obtain⟨v,h1,h2⟩:=hE2;rw[q4o hsA h1];exact hnext v w h2
/-- A region that draws its order, its first np operations: by what holds between them; then what is behind the gate. -/
theorem region_inv {id:Nat} {a:Act} {w:World} (np m:Nat) (ls:Array Bool) (ds:List (Option Tmp)) (Inv:(Nat→Bool)→(Nat→Value)→World→Prop) (hm:P.follows .mixedOrders=true) (hok:q1X .any ops np=true) (hd:(ops.toList.take np).map (·.dst)=ds)
  (hsm:ops.size=np+m) (hls:Array.replicate np true++Array.replicate m false=ls)
  (h0:∀ f,Inv (fun _=>false) f w.drew)
  (hB:∀ A:(Nat→Value)→Act,(∀ f,A f=q0W ds ((List.range np).map f) a)→Ones P .any ops Inv A 0 (ops.toList.take np)∧∀ (f:Nat→Value) (L:Nat→Bool) w',Inv L f w'→(∀ j,j<np→L j=true)→wpAny P .any ops Q m ls (A f) w'):
  (Code.region id ops true).wp P Q a w:=by
 obtain⟨A,hA⟩:∃ A:(Nat→Value)→Act,∀ f,A f=q0W ds ((List.range np).map f) a:=⟨fun f=>_,fun f=>rfl⟩;obtain⟨h,hend⟩:=hB A hA;refine wp_region_any hm ?_;have uw:np≤ops.size:=by
  unfold q1X at hok;simp only[Bool.and_eq_true,decide_eq_true_eq] at hok;exact hok.1.1.1.1.2
 have hl:(ops.toList.take np).length=np:=by simp;omega
 have hlaid:(fun f=>laid ops f (fun _=>true) a np)=A:=by
  funext f
  rw[hA,← hd,← q5t];have:=q3f (ops:=ops) f a (ops.toList.take np) [] ((List.range np).map f) a (by simp) (by rw[hl];simp) rfl;simpa [hl,Nat.min_eq_left uw] using this.symm
 have key:=qbG (P:=P) (md:= .any) (ops:=ops) (Q:=Q) (Inv:=Inv) (np:=np) (a:=a) hok (fun i o hi ho=>by
   rw[hlaid];have h1:=h.get (j:=i) (o:=o) (by rw[List.getElem?_take,if_pos hi];simpa using ho)
   rwa[Nat.zero_add] at h1) (dN:=m) (fun f L w' hI hL listed hsz hlt hge=>by
   have e2:listed=ls:=by
    rw[← hls];refine Array.ext (by simp [hsz];omega) fun j h1 h2=> ?_;have e3:listed[j]=listed.getD j false:=by simp [h1]
    rw[e3];by_cases hj:j<np
    ·rw[hlt j hj,Array.getElem_append_left (by simpa using hj)];simp
    ·rw[hge j (by omega),Array.getElem_append_right (by simpa using hj)];simp
   rw[congrFun hlaid f,e2];exact hend f L w' hI hL) np (Array.replicate ops.size false) (fun _=>undef) w.drew (by simp) (fun j k hj _=>by
    by_cases hjs:j<ops.size<;>simp [hjs] at hj) (fun j _=>by by_cases hjs:j<ops.size<;>simp [hjs]) (by
    have:∀ n,((List.range n).countP fun j=> !(Array.replicate ops.size false).getD j false)=n:=by
     intro n;rw[List.countP_eq_length.2,List.length_range];intro j _;by_cases hjs:j<ops.size<;>simp [hjs]
    exact this np) (by
    have:(fun j=>(Array.replicate ops.size false).getD j false)=fun _=>false:=by
     funext j
     by_cases hjs:j<ops.size<;>simp [hjs]
    rw[this];exact h0 _)
 have e:laid ops (fun _=>undef) (fun j=>(Array.replicate ops.size false).getD j false) a np=a:=by
  have:∀ n,laid ops (fun _=>undef) (fun j=>(Array.replicate ops.size false).getD j false) a n=a:=by
   intro n
   induction n with
   |zero=>rfl
   |succ n ih=>
    have e0:(Array.replicate ops.size false).getD n false=false:=by by_cases hjs:n<ops.size<;>simp [hjs]
    simp only[laid,e0,Bool.false_eq_true,if_false,ih]
  exact this np
 rw[e] at key;rw[show m+np=ops.size from by omega] at key;exact key
end
end Go.Proofs.YtbfjihniphldaaaGreatDoor.RV
