/- What is proved here: a law of the walk: in a region that draws its order, operations that are quiet and for which all the rest waits are walked first. -/
import Derived.Test.YtbfjihniphldaaaGreatDoorC2
import Derived.RegionTactic
namespace Go.Proofs.YtbfjihniphldaaaGreatDoor
section
variable {P:Program} {ops:Array Oper} {md:Region.Mode} {C:World→Prop} {Q:Exit→Act→World→Prop}
/-- Operation j waits for k. -/
def waits (md:Region.Mode) (ops:Array Oper) (j k:Nat):Bool:=match ops[j]? with
 |some o=>o.after.any fun e=>Region.binds md e&&e.on==k
 |none=>false
/-- Of the operations pl, each is waited for, by way of others of them, by np; what else is not in l0 waits, by way of others, for np. -/
def chained (md:Region.Mode) (ops:Array Oper) (l0:Array Bool) (pl:List Nat) (np:Nat):Bool:=
 pl.all (fun i=>decide (i<np)&&(List.range (np+1)).any fun k=>decide (i<k)&&waits md ops k i&&(k==np||pl.contains k))&& !l0.getD np false&&
 (List.range ops.size).all (fun j=>l0.getD j false||pl.contains j||j==np||(decide (np<j)&&(List.range j).any fun k=>decide (np≤k)&& !l0.getD k false&&waits md ops j k))
def Closed (md:Region.Mode) (ops:Array Oper) (listed:Array Bool):Prop:=∀ j k,listed.getD j false=true→waits md ops j k=true→listed.getD k false=true
theorem q0E {j k:Nat} {listed:Array Bool} (hj:j∈Region.ready md ops listed) (hw:waits md ops j k=true):listed.getD k false=true:=by
 obtain⟨-,o,ho,hall⟩:=mem_ready.1 hj;unfold waits at hw;rw[ho] at hw;simp only[Array.any_eq_true,Bool.and_eq_true,beq_iff_eq] at hw;obtain⟨i,hi,hb,rfl⟩:=hw;exact hall _ (Array.getElem_mem hi) hb
theorem q0r {l:Array Bool} {i:Nat} (h:l.getD i true=false):l.getD i false=false:=by
 rcases Nat.lt_or_ge i l.size with h'|h'
 ·simp [h'] at h ⊢;exact h
 ·simp [Array.getElem?_eq_none h'] at h
theorem Closed.set {listed:Array Bool} {j:Nat} (hc:Closed md ops listed) (hj:j∈Region.ready md ops listed):Closed md ops (listed.setIfInBounds j true):=by
 intro i k h hw;refine getD_set_true ?_;by_cases hij:j=i
 ·subst hij;exact q0E hj hw
 ·rw[getD_set_ne false hij] at h;exact hc i k h hw
theorem qbj {l0:Array Bool} {pl:List Nat} {np i:Nat} (hch:chained md ops l0 pl np=true) (hi:i∈pl):i<np:=by
 unfold chained at hch;simp only[Bool.and_eq_true,List.all_eq_true,decide_eq_true_eq] at hch;exact(hch.1.1 i hi).1
theorem q3j {l0:Array Bool} {pl:List Nat} {np:Nat} {listed:Array Bool} (hc:Closed md ops listed) (hch:chained md ops l0 pl np=true):∀ d i,np-i=d→i∈pl→listed.getD i false=false→listed.getD np false=false∧np∉Region.ready md ops listed:=by
 intro d
 induction d using Nat.strongRecOn with
 |ind d ih=>
  intro i hd hi hu;have hin:=qbj hch hi;have hch':=hch;unfold chained at hch';simp only[Bool.and_eq_true,List.all_eq_true] at hch';have h1:=(hch'.1.1 i hi).2;simp only[List.any_eq_true,List.mem_range,Bool.and_eq_true,decide_eq_true_eq,Bool.or_eq_true,beq_iff_eq,List.contains_iff_mem] at h1;obtain⟨k,hk,⟨hik,hw⟩,hor⟩:=h1;have CZ:listed.getD k false=false:=by
   cases h:listed.getD k false with
   |false=>rfl
   |true=>rw[hc k i h hw] at hu;cases hu
  by_cases hkn:k=np
  ·subst hkn;exact⟨CZ,fun hr=>by rw[q0E hr hw] at hu;cases hu⟩
  ·exact ih (np-k) (by omega) k rfl (hor.resolve_left hkn) CZ
theorem q4c {l0:Array Bool} {pl:List Nat} {np i:Nat} {listed:Array Bool} (hc:Closed md ops listed) (hch:chained md ops l0 pl np=true) (hi:i∈pl) (hu:listed.getD i false=false):
  ∀ j,np≤j→l0.getD j false=false→listed.getD j false=false∨ops.size≤j:=by
 intro j
 induction j using Nat.strongRecOn with
 |ind j ih=>
  intro hj hj0;by_cases hjn:j=np
  ·subst hjn;exact Or.inl (q3j hc hch _ i rfl hi hu).1
  ·by_cases hs:ops.size≤j
   ·exact Or.inr hs
   ·have hch':=hch;unfold chained at hch';simp only[Bool.and_eq_true,List.all_eq_true,List.mem_range] at hch';have h1:=hch'.2 j (by omega);simp only[hj0,Bool.or_eq_true,Bool.false_eq_true,false_or,List.contains_iff_mem,beq_iff_eq,hjn,or_false,Bool.and_eq_true,decide_eq_true_eq,List.any_eq_true,List.mem_range,Bool.not_eq_true'] at h1;rcases h1 with h1|⟨-,k,hk,⟨hnk,hk0⟩,hw⟩
    ·exact absurd (qbj hch h1) (by omega)
    ·rcases ih k hk hnk hk0 with h2|h2
     ·refine Or.inl ?_;cases h:listed.getD j false with
      |false=>rfl
      |true=>rw[hc j k h hw] at h2;cases h2
     ·omega
theorem q7E {l0:Array Bool} {pl:List Nat} {np i j:Nat} {listed:Array Bool} (hc:Closed md ops listed) (hl0:∀ k,l0.getD k false=true→listed.getD k false=true) (hch:chained md ops l0 pl np=true) (hi:i∈pl) (hu:listed.getD i false=false) (hj:j∈Region.ready md ops listed):j∈pl:=by
 have wI:=q0r (mem_ready.1 hj).1;have hj0:l0.getD j false=false:=by
  cases h:l0.getD j false with
  |false=>rfl
  |true=>rw[hl0 j h] at wI;cases wI
 obtain⟨-,o,ho,-⟩:=mem_ready.1 hj;have hjs:j<ops.size:=(Array.getElem?_eq_some_iff.1 ho).1;have hch':=hch;unfold chained at hch';simp only[Bool.and_eq_true,List.all_eq_true,List.mem_range] at hch';have h1:=hch'.2 j hjs;simp only[hj0,Bool.or_eq_true,Bool.false_eq_true,false_or,List.contains_iff_mem,beq_iff_eq,Bool.and_eq_true,decide_eq_true_eq,List.any_eq_true,List.mem_range,Bool.not_eq_true'] at h1;rcases h1 with (h1|h1)|⟨-,k,hk,⟨hnk,hk0⟩,hw⟩
 ·exact h1
 ·subst h1;exact absurd hj (q3j hc hch _ i rfl hi hu).2
 ·exfalso;rcases q4c hc hch hi hu k hnk hk0 with h2|h2
  ·rw[q0E hj hw] at h2;cases h2
  ·omega
/-- The operations pl in whatever order, each quiet; then the rest, from whatever world of the class. -/
def q4D (P:Program) (md:Region.Mode) (ops:Array Oper) (C:World→Prop) (Q:Exit→Act→World→Prop) (pl:List Nat) (fp:Nat):Nat→Array Bool→Act→Prop
 |0,listed,a=>(∀ i,i∈pl→listed.getD i false=true)∧∀ w',C w'→wpAny P md ops Q fp listed a w'
 |m+1,listed,a=>Region.ready md ops listed≠[]∧∀ i∈Region.ready md ops listed,qOp P ops C i (q4D P md ops C Q pl fp m (listed.setIfInBounds i true)) a
theorem q3M {pl:List Nat} {fp:Nat}:∀ (m:Nat) (listed:Array Bool) (a:Act) (w:World),C w→q4D P md ops C Q pl fp m listed a→wpAny P md ops Q (fp+m) listed a w
 |0,_,_,_,hw,h=>h.2 _ hw
 |m+1,_,_,_,hw,h=>⟨fun h0=>absurd h0 h.1,fun i hi=>wpOp_of_qOp hw (fun a' w' hw'=>q3M m _ a' w' hw') (h.2 i hi)⟩
theorem q5h {l0:Array Bool} {pl:List Nat} {np fp i:Nat} {oi:Oper} {v:Value} (hi:ops[i]? =some oi) (hsel:∀ (j:Nat) (o:Oper) cs b,ops[j]? =some o→o.op≠ .select cs b) (hch:chained md ops l0 pl np=true) (hin:i∈pl):
  ∀ (m:Nat) (listed:Array Bool) (a:Act),Closed md ops listed→(∀ k,l0.getD k false=true→listed.getD k false=true)→
   (∀ j oj,ops[j]? =some oj→j≠i→listed.getD j true=false→(∀ e∈oj.after,Region.binds md e=true→e.on≠i)→oi.apart ops oj=true)→
   i∈Region.ready md ops listed→YieldsIn P ops C oi v a→
   q4D P md ops C Q pl fp m (listed.setIfInBounds i true) (a.put oi.dst v)→q4D P md ops C Q pl fp (m+1) listed a:=by
 intro m
 induction m with
 |zero=>
  intro listed a hc hl0 _ hr hy H;refine⟨fun h=>(by rw[h] at hr;cases hr),fun j hj=> ?_⟩;by_cases hji:j=i
  ·subst hji;exact hy.qOp hi H
  ·exfalso;have hu:=q0r (mem_ready.1 hr).1;have h1:=H.1 j (q7E hc hl0 hch hin hu hj);rw[getD_set_ne false (Ne.symm hji),q0r (mem_ready.1 hj).1] at h1;cases h1
 |succ m ih=>
  intro listed a hc hl0 hfree hr hy H;refine⟨fun h=>(by rw[h] at hr;cases hr),fun j hj=> ?_⟩;by_cases hji:j=i
  ·subst hji;exact hy.qOp hi H
  ·have h1:=H.2 j (ready_mono hj hji);obtain⟨hjun,oj,hoj,hall⟩:=mem_ready.1 hj;have hnot:∀ e∈oj.after,Region.binds md e=true→e.on≠i:=fun e he hb heq=>by
    have h1:=hall e he hb;have h0:=(mem_ready.1 hr).1;rw[heq] at h1;rcases Nat.lt_or_ge i listed.size with h'|h'
    ·simp [h'] at h0 h1;rw[h0] at h1;cases h1
    ·simp [Array.getElem?_eq_none h'] at h1
   have h2:=qOp_put hoj (hfree j oj hoj hji hjun hnot) (fun cs b=>hsel i oi cs b hi) (fun cs b=>hsel j oj cs b hoj) hy h1;have hfree':∀ k ok,ops[k]? =some ok→k≠i→(listed.setIfInBounds j true).getD k true=false→
     (∀ e∈ok.after,Region.binds md e=true→e.on≠i)→oi.apart ops ok=true:=fun k ok hk hki hun hno=>by
    refine hfree k ok hk hki ?_ hno;by_cases hjk:j=k
    ·subst hjk;exact hjun
    ·rw[getD_set_ne true hjk] at hun;exact hun
   refine qOp_mono (fun a' h3=>ih (listed.setIfInBounds j true) a' (hc.set hj) (fun k hk=>getD_set_true (hl0 k hk)) hfree' (ready_mono hr (Ne.symm hji)) h3.1 ?_) h2;rw[Array.setIfInBounds_comm _ _ hji];exact h3.2
def q3K (md:Region.Mode) (ops:Array Oper) (pl:List Nat):List Nat→Array Bool→Bool
 |[],listed=>pl.all fun i=>listed.getD i false
 |k::ks,listed=>pl.contains k&&(Region.ready md ops listed).contains k&&Region.free md ops listed k&&q3K md ops pl ks (listed.setIfInBounds k true)
def q3l:List Nat→Array Bool→Array Bool
 |[],listed=>listed
 |k::ks,listed=>q3l ks (listed.setIfInBounds k true)
theorem q3T {l0:Array Bool} {pl:List Nat} {np fp:Nat} (hs:Region.noSelect ops=true) (hch:chained md ops l0 pl np=true):∀ (ks:List Nat) (l:List Oper) (listed:Array Bool) (a:Act),ks.map (fun k=>ops[k]?)=l.map some→Closed md ops listed→
  (∀ k,l0.getD k false=true→listed.getD k false=true)→q3K md ops pl ks listed=true→wpQuiet P ops C (fun a'=>∀ w',C w'→wpAny P md ops Q fp (q3l ks listed) a' w') l a→q4D P md ops C Q pl fp ks.length listed a
 |[],[],listed,a,_,_,_,hB,h=>by
  refine⟨fun i hi=> ?_,h⟩;simp only[q3K,List.all_eq_true] at hB;exact hB i hi
 |[],o::l,_,_,hl,_,_,_,_=>by simp at hl
 |k::ks,[],_,_,hl,_,_,_,_=>by simp at hl
 |k::ks,o::l,listed,a,hl,hc,hl0,hB,h=>by
  simp only[List.map_cons,List.cons.injEq] at hl;obtain⟨h0,hl'⟩:=hl;simp only[q3K,Bool.and_eq_true] at hB;obtain⟨⟨⟨hp,hr⟩,hf⟩,hB'⟩:=hB;have hst:qOp P ops C k (wpQuiet P ops C (fun a'=>∀ w',C w'→wpAny P md ops Q fp (q3l ks (listed.setIfInBounds k true)) a' w') l) a:=by unfold qOp;simp only[h0];exact h
  obtain⟨v,hy,hK⟩:=yieldsIn_of_qOp h0 hst;have hr':k∈Region.ready md ops listed:=by simpa using hr
  exact q5h h0 (Region.noSelect_spec hs) hch (by simpa using hp) ks.length listed a hc hl0 (Region.free_spec h0 hf) hr' hy
   (q3T hs hch ks l _ _ hl' (hc.set hr') (fun k hk=>getD_set_true (hl0 k hk)) hB' hK)
def q2U (md:Region.Mode) (ops:Array Oper) (listed:Array Bool):Bool:=
 (List.range listed.size).all fun j=> !listed.getD j false||(List.range (ops.size+j)).all fun k=> !waits md ops j k||listed.getD k false
/-- What no operation waits for beyond the region. -/
def q2R (md:Region.Mode) (ops:Array Oper):Bool:=ops.all fun o=>o.after.all fun e=> !Region.binds md e||decide (e.on<ops.size)
theorem q4S {listed:Array Bool} (h:q2U md ops listed=true) (hw:q2R md ops=true):Closed md ops listed:=by
 intro j k hj hk;unfold q2U at h;simp only[List.all_eq_true,List.mem_range,Bool.or_eq_true,Bool.not_eq_true'] at h;have hjs:j<listed.size:=by
  rcases Nat.lt_or_ge j listed.size with h'|h'
  ·exact h'
  ·simp [Array.getElem?_eq_none h'] at hj
 rcases h j hjs with h1|h1
 ·rw[hj] at h1;cases h1
 ·have hks:k<ops.size:=by
   have hk':=hk;unfold waits at hk';split at hk'
   ·rename_i o ho
    simp only[Array.any_eq_true,Bool.and_eq_true,beq_iff_eq] at hk';obtain⟨i,hi,hb,he⟩:=hk';unfold q2R at hw;simp only[Array.all_eq_true_iff_forall_mem,Bool.or_eq_true,Bool.not_eq_true',decide_eq_true_eq] at hw;rcases hw o (Array.mem_of_getElem? ho) _ (Array.getElem_mem hi) with h2|h2
    ·rw[hb] at h2;cases h2
    ·omega
   ·cases hk'
  rcases h1 k (by omega) with h2|h2
  ·rw[hk] at h2;cases h2
  ·exact h2
/-- In a region that draws its order, operations that are quiet and for which all the rest waits are walked first. -/
theorem q8i {np fp:Nat} {a:Act} {w:World} {listed:Array Bool} (pl:List Nat) (pre:List Oper) (hpre:pl.map (fun k=>ops[k]?)=pre.map some) (hs:Region.noSelect ops=true)
  (hch:chained md ops listed pl np=true) (hc:q2U md ops listed=true) (hw:q2R md ops=true) (hB:q3K md ops pl pl listed=true) (hC:C w)
  (h:wpQuiet P ops C (fun a'=>∀ w',C w'→wpAny P md ops Q fp (q3l pl listed) a' w') pre a):wpAny P md ops Q (fp+pl.length) listed a w:=
 q3M pl.length _ a w hC (q3T (C:=C) (Q:=Q) (fp:=fp) hs hch pl pre listed a hpre (q4S hc hw) (fun _ h=>h) hB h)
theorem q0o {i:Nat} {oi:Oper} {v:Value} {fuel:Nat} {listed:Array Bool} {a:Act} {w:World} (hi:ops.toList[i]? =some oi)
  (hs:Region.noSelect ops=true) (hf:Region.free md ops listed i=true) (hr:(Region.ready md ops listed).contains i=true)
  (hQ:∀ c a w,Q (.panic c) (a.put oi.dst v) w→Q (.panic c) a w) (hy:Yields P ops oi v a)
  (h:wpAny P md ops Q fuel (listed.setIfInBounds i true) (a.put oi.dst v) w):wpAny P md ops Q (fuel+1) listed a w:=
 wpAny_take (by rw[← hi];simp) hs hf hr hQ hy h
/-- The same, for the worlds behind one. -/
theorem q8S {fp:Nat} {a:Act} {w w1:World} {listed:Array Bool} (np:Nat) (pl:List Nat) (pre:List Oper) (hpre:pl.map (fun k=>ops.toList[k]?)=pre.map some) (hs:Region.noSelect ops=true)
  (hch:chained md ops listed pl np=true) (hc:q2U md ops listed=true) (hw:q2R md ops=true) (hB:q3K md ops pl pl listed=true) (hC:G w w1)
  (h:∀ W,W=w→wpQuiet P ops (fun w'=>∃ p:World,w'=gw W p) (fun a'=>∀ w',G w w'→wpAny P md ops Q fp (q3l pl listed) a' w') pre a):wpAny P md ops Q (fp+pl.length) listed a w1:=by
 refine q8i (C:=fun w'=>∃ p:World,w'=gw w p) (np:=np) pl pre (by rw[← hpre];simp) hs hch hc hw hB hC.ex ?_;have h2:=h w rfl;have e:(fun a'=>∀ w',G w w'→wpAny P md ops Q fp (q3l pl listed) a' w')=(fun a'=>∀ w',(∃ p:World,w'=gw w p)→wpAny P md ops Q fp (q3l pl listed) a' w'):=by
  funext a'
  apply propext;constructor
  ·intro hh w' ⟨p,hp⟩;rw[hp];exact hh _ (gw_G w p)
  ·intro hh w' hw;exact hh w' hw.ex
 rw[e] at h2;exact h2
end
end Go.Proofs.YtbfjihniphldaaaGreatDoor
