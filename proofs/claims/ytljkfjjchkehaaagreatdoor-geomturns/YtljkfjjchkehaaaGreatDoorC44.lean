/- What is proved here: the library's sort of points by package geom's order, slices.SortedFunc, over this seat's translation.
What is proved here: package geom's Hull of points of which no two are the same, over this seat's translation.
What is proved here: the closed facts on five points in their order, over this seat's translation (no program).
What is proved here: the closed fact on figures holds, over this seat's translation. -/
import Derived.Test.YtljkfjjchkehaaaGreatDoorC36
import Derived.Test.YtljkfjjchkehaaaGreatDoorC43
import Derived.Test.YtljkfjjchkehaaaGreatDoorC41
import Derived.Test.YtljkfjjchkehaaaGreatDoorC9
import Derived.Shelf.SlSortCmp.WholeK
import Derived.Test.YtljkfjjchkehaaaGreatDoorC35
import Derived.Test.YtljkfjjchkehaaaGreatDoorC42
import Derived.Test.YtljkfjjchkehaaaGreatDoorC38
namespace Go.Proofs.YtljkfjjchkehaaaGreatDoor.EN
open Go.ChangeShapes Go.WideShapes Go.ChangeAt Go.RowKit Go.Sort
/-- Points that can be ordered. -/
abbrev Pt:={p:Nat×Nat // FinP p}
theorem fin0:FinP (0,0):=by
 constructor
 ·show fex 0<2047
  decide
 ·show fex 0<2047
  decide
instance:Inhabited Pt:=⟨⟨(0,0),fin0⟩⟩
theorem q6m {a b:Int}:cmpZ a b<0↔a<b:=by unfold cmpZ;split<;>(try split)<;>omega
theorem q9Q {a b:Int}:cmpZ a b=0↔a=b:=by unfold cmpZ;split<;>(try split)<;>omega
theorem q4G {p q:Nat×Nat}:ordZ p q<0↔fz p.1<fz q.1∨fz p.1=fz q.1∧fz p.2<fz q.2:=by
 unfold ordZ
 have h1:=q6m (a:=fz p.1) (b:=fz q.1)
 have h2:=q9Q (a:=fz p.1) (b:=fz q.1)
 have h3:=q6m (a:=fz p.2) (b:=fz q.2)
 split<;>omega
theorem swoP:SWO (ltOf fun x y:Pt=>ordZ x.1 y.1) where
 irrefl x:=by unfold ltOf;rw[decide_eq_false_iff_not,q4G];omega
 trans x y z h1 h2:=by
  unfold ltOf at *
  rw[decide_eq_true_eq,q4G] at *
  omega
 ntrans x y z h1 h2:=by
  unfold ltOf at *
  rw[decide_eq_false_iff_not,q4G] at *
  omega
/-- Points in order: no later one is ahead of an earlier one. -/
def q21 (l:List (Nat×Nat)):Prop:=∀ i j,i<j→j<l.length→¬ ordZ (l.getD j (0,0)) (l.getD i (0,0))<0
theorem q8k {l:List (Nat×Nat)} (h:∀ p∈l,FinP p):∃ d:Array Pt,d.toList.map (fun x=>x.1)=l:=by
 refine⟨(l.attach.map fun p=>⟨p.1,h p.1 p.2⟩).toArray,?_⟩
 show List.map _ (List.map _ l.attach)=l
 rw[List.map_map]
 exact List.attach_map_subtype_val l
theorem q63 (w:World) (base:Nat) (v:Value) (l:List (Nat×Nat)) (ho:POwn w base v l) (hne:l≠[]) (hf:∀ p∈l,FinP p) (hn:l.length≤1000000):
  Calls Tryz.prog 157 #[v,.func (.func 117) #[] #[]] w fun e w'=>e= .returned (.tuple #[])∧∃ l',POwn w' base v l'∧l'.Perm l∧q21 l'∧OntoP base v w w':=by
 obtain⟨d,hd⟩:=q8k hf
 rw[← hd] at ho hn hne ⊢
 have hv:∃ g cap,v= .slice (some ⟨g,0,none⟩) d.size cap:=by
  rcases ho with ⟨-,e⟩|⟨g,cap,cur,e,-⟩
  ·exact absurd e hne
  ·exact⟨g,cap,by rw[e];simp⟩
 obtain⟨g,cap,rfl⟩:=hv
 obtain⟨hH,hg,-,-⟩:=q3o _ ho
 have hc:=AnyQ.slices_SortFunc Tryz.sortP 2 (fun w=>Tryz.isAgg66 w) (fun w=>Tryz.sizeOf66 w) (fun x:Pt=>encP x.1) (fun _=>rfl) (fun x u hu=>by
   simp only[encP,List.mem_cons,List.not_mem_nil,or_false] at hu
   rcases hu with rfl|rfl<;>rfl) (fun x y=>ordZ x.1 y.1) swoP 117 #[] g 0 cap d w (enters_of Tryz.func117 (by kernel_rfl) rfl)
   (fun m os dk _ x y=>q9G _ x.1 y.1 x.2 y.2) hH hg (by simp at hn;omega)
 refine Calls.mono hc ?_
 rintro e w' ⟨rfl,d',n,os,hp,hs,rfl⟩
 obtain⟨h1,h2⟩:=q5F (fun x:Pt=>x.1) (m:=n) (os:=os) ho hp.1
 refine⟨rfl,d'.toList.map (fun x=>x.1),h1,?_,?_,h2⟩
 ·have:=hp.2.2
  rw[← hp.1,Array.extract_size,hp.1,Array.extract_size] at this
  exact this.map _
 ·intro i j hij hj
  simp only[List.length_map,Array.length_toList] at hj
  have:=hs i j (Nat.zero_le _) hij (by rw[← hp.1];exact hj)
  unfold ltOf at this
  rw[decide_eq_false_iff_not] at this
  have e:∀ k,k<d'.size→(d'.toList.map (fun x=>x.1)).getD k (0,0)=(d'[k]!).1:=by
   intro k hk
   rw[List.getD_eq_getElem?_getD,List.getElem?_eq_getElem (by simpa using hk),getElem!_pos d' k hk]
   simp
  rw[e j hj,e i (by omega)]
  exact this
/-- slices.SortedFunc(slices.Values(l), order). -/
theorem q4u (Bs:Nat) (sv:Value) (zs:List (Nat×Nat)) (hlen:zs.length≤1000000) (hne:zs≠[]) (hf:∀ p∈zs,FinP p) (w:World) (n₀:Nat) (nJ:Bs<w.heap.size) (hn0:n₀≤w.heap.size)
  (hc:w.cell? ⟨Bs,0,none⟩=some sv) (hI:PSlB n₀ w sv zs):
  Calls Tryz.prog 115 #[.func (.func 158) #[] #[.pointer (some ⟨Bs,0,none⟩)],.func (.func 117) #[] #[]] w fun e w'=>∃ v l',e= .returned v∧POwn w' w.heap.size v l'∧l'.Perm zs∧q21 l'∧G w w':=by
 have HC:Hid _:=q7k Bs n₀ sv zs hlen w nJ hn0 hc hI
 have HS:Hid (∀ w1 v,POwn w1 w.heap.size v zs→_):=fun w1 v h=>q63 w1 w.heap.size v zs h hne hf hlen
 clear hc hI hlen hf hne
 go_enter Tryz.func115,Tryz.ntmps115
 go_wp2_with fail
 refine Calls.mono (P:=Tryz.prog) HC.out ?_
 rintro e w1 ⟨v,rfl,h1,h2⟩
 obtain⟨pa,pc,rfl⟩:=h1.len
 have HG:Hid (G w w1):=h2
 have HO:Hid _:=h1
 clear h1 h2
 go_wp2_with fail
 refine Calls.mono (P:=Tryz.prog) (HS.out _ _ HO.out) ?_
 rintro e w2 ⟨rfl,l',h3,h4,h5,h6⟩
 have HF:Hid (POwn w2 w.heap.size _ l'∧l'.Perm zs∧q21 l'∧G w w2):=⟨h3,h4,h5,h6.g w (Nat.le_refl _) HG.out⟩
 clear h3 h4 h5 h6
 go_wp2_with fail
 go_ret
 exact⟨_,l',rfl,HF.out⟩
end Go.Proofs.YtljkfjjchkehaaaGreatDoor.EN
namespace Go.Proofs.YtljkfjjchkehaaaGreatDoor.EN
open Go.ChangeShapes Go.WideShapes Go.ChangeAt Go.RowKit
attribute [local go_sem] q0d
theorem POwn.psl {w:World} {base:Nat} {v:Value} {l:List (Nat×Nat)} (h:POwn w base v l):PSl w v l:=by
 rcases h with ⟨rfl,rfl⟩|⟨b,cap,cur,rfl,h1,h2,h3,h4,h5,h6,h7⟩
 ·exact⟨none,0,rfl,Nat.le_refl _,fun i hi=>nomatch hi⟩
 ·refine⟨_,cap,rfl,h3,fun i hi=> ?_⟩
  obtain⟨k1,k2⟩:=POwn.cellAt h2 h6 hi
  exact⟨b,0,rfl,q1F h2,by rw[Nat.zero_add];exact k1,by rw[Nat.zero_add];exact k2⟩
theorem POwn.onto {w w':World} {base base':Nat} {u v:Value} {m:List (Nat×Nat)} (h:POwn w base' u m) (o:OntoP base v w w') (hne:∀ g,u.ownBlock=some g→v.ownBlock≠some g):POwn w' base' u m:=by
 rcases h with h|⟨g,cap,cur,rfl,h1,h2,h3⟩
 ·exact Or.inl h
 ·exact Or.inr ⟨g,cap,cur,rfl,h1,(o.h g (q1F h2) (hne g rfl)).trans h2,h3⟩
theorem POwn.atLeast {w:World} {base g:Nat} {u:Value} {m:List (Nat×Nat)} (h:POwn w base u m) (e:u.ownBlock=some g):base≤g∧g<w.heap.size:=by
 rcases h with ⟨rfl,-⟩|⟨b,cap,cur,rfl,h1,h2,-⟩
 ·cases e
 ·have:=Option.some.inj (e:some b=some g)
  subst this
  exact⟨h1,q1F h2⟩
theorem POwn.cells {w:World} {base g n cap:Nat} {m:List (Nat×Nat)} (h:POwn w base (.slice (some ⟨g,0,none⟩) n cap) m):∀ j u,(pl m)[j]? =some u→w.cell? ((⟨g,0,none⟩:Addr).add j)=some u:=by
 rcases h with ⟨e,-⟩|⟨b',cap',cur,e,h1,h2,h3,h4,h5,h6,h7⟩
 ·cases e
 ·injection e with e1 e2 e3
  injection e1 with e1
  injection e1 with e1
  subst e1;subst e3
  intro j u hu
  have hj:j<m.length*2:=by rw[← q1O m];exact(List.getElem?_eq_some_iff.1 hu).1
  have hadd:(⟨g,0,none⟩:Addr).add j=⟨g,j,none⟩:=by unfold Addr.add;split<;>simp_all
  rw[hadd]
  simp only[World.cell?,h2]
  rw[← h6,List.getElem?_take,if_pos hj] at hu
  simpa using hu
theorem POwn.form {w:World} {base:Nat} {v:Value} {m:List (Nat×Nat)} (h:POwn w base v m) (hm:m≠[]):∃ g cap,v= .slice (some ⟨g,0,none⟩) m.length cap∧m.length≤cap:=by
 rcases h with ⟨-,e⟩|⟨g,cap,cur,rfl,h1,h2,h3,-⟩
 ·exact absurd e hm
 ·exact⟨g,cap,rfl,h3⟩
theorem PSl.bel {w:World} {v:Value} {l:List (Nat×Nat)} (h:PSl w v l):PSlB w.heap.size w v l:=h
theorem q7r {p:Nat×Nat}:∀ {r:List (Nat×Nat)},r≠[]→popR p r≠[]
 |[],h=>absurd rfl h
 |[_],_=>by unfold popR;simp
 |b::a::r,_=>by
  unfold popR
  split
  ·simp
  ·exact q7r (by simp)
theorem q6S (r l m:List (Nat×Nat)):q0M r (l++m)=q0M (q0M r l) m:=List.foldl_append
theorem q72 {r l:List (Nat×Nat)} (hl:l≠[]):(if r=[] then 1 else 2)≤(q0M r l).length:=by
 obtain⟨m,p,rfl⟩:∃ m p,l=m++[p]:=⟨l.dropLast,l.getLast hl,(List.dropLast_concat_getLast hl).symm⟩
 rw[q6S]
 show _≤(p::popR p (q0M r m)).length
 by_cases hr:r=[]
 ·rw[if_pos hr];simp
 ·rw[if_neg hr]
  have:q0M r m≠[]:=by
   clear hl
   induction m generalizing r with
   |nil=>exact hr
   |cons q m ih=>exact ih (r:=q::popR q r) (by simp)
  have:=List.length_pos_iff.2 (q7r (p:=p) this)
  simp
  omega
theorem q4g {l:List (Nat×Nat)} (h:2≤l.length):2≤(q0M [] l).length:=by
 rcases l with _|⟨p,l⟩
 ·simp at h
 ·have:=q72 (r:=[p]) (l:=l) (by rintro rfl;simp at h)
  rw[if_neg (by simp)] at this
  exact this
theorem q5e {r l:List (Nat×Nat)}:(q0M r l).length≤r.length+l.length:=by
 induction l generalizing r with
 |nil=>exact Nat.le_refl _
 |cons p l ih=>
  have h1:=ih (r:=p::popR p r)
  have h2:=q5a (p:=p) (r:=r)
  show (q0M (p::popR p r) l).length≤_
  simp only[List.length_cons] at h1 ⊢
  omega
/-- The corners, out of the points in their order. -/
def q7t (s:List (Nat×Nat)):List (Nat×Nat):=(q0M [] s).reverse.dropLast++(q0M [] s.reverse).reverse.dropLast
def q9E (w:World) (l:List (Nat×Nat)) (e:Ending) (w':World):Prop:=∃ v s,e= .returned (.tuple #[v,.agg #[.int .i64 0,.int .i64 0]])∧G w w'∧s.Perm l∧q21 s∧POwn w' w.heap.size v (q7t s)
/-- No two are the same. -/
def q51 (l:List (Nat×Nat)):Prop:=∀ s:List (Nat×Nat),s.Perm l→∀ k,k+1<s.length→q6T (s.getD (k+1) (0,0)) (s.getD k (0,0))
theorem q8h {P:Program} (w:World) {o:Oper} {a:Act} {K:Act→World→Prop} {Q:Exit→Act→World→Prop} (s x:Operand) (t:TypeId)
  (ho:o.op= .call {callee:= .builtin .append,args:=#[s,x],argTypes:=#[t,t]}) (v sl:Value) (hs:a.eval s=v) (hx:a.eval x=sl) {v':Value} {w':World}
  (hr:(Builtin.append_ #[t,t] o.type #[v,sl]).run P w= .ok v' w') (h:K (a.put o.dst v') w'):o.wp P a w K Q:=by
 unfold Oper.wp execOp
 simp only[ho,resolve,invoke,builtin,Sem.run_bind,Sem.run_pure,Result.andThen_ok,List.map_toArray,List.map_cons,List.map_nil,hs,hx,hr]
 exact h
set_option maxRecDepth 20000 in
set_option maxHeartbeats 2000000 in
theorem qah (w:World) (v:Value) (l:List (Nat×Nat)) (hT:Tab w) (h:PSl w v l) (hl:∀ p∈l,PtOk p) (h2:2≤l.length) (hn:l.length≤60) (hd:q51 l):Calls Tryz.prog 69 #[v] w (q9E w l):=by
 obtain⟨pa,ca,rfl,dO,hrow⟩:=id h
 have HT:Hid (Tab w):=hT
 have HP:Hid (PSl w (.slice pa l.length ca) l):=h
 have HL:Hid (∀ p∈l,PtOk p):=hl
 have HD:Hid (q51 l):=hd
 have HU:Hid (∀ w1,G w w1→_):=fun w1 g=>q4Y w1 _ l (h.G g) (fun i hi=>by
  have:=hl _ (List.getElem_mem hi)
  rw[List.getD_eq_getElem?_getD,List.getElem?_eq_getElem hi]
  exact⟨this.1,this.2.1⟩) hn
 have HFin:Hid (∀ i,i<l.length→FinP (l.getD i (0,0))):=fun i hi=>by
  rw[List.getD_eq_getElem?_getD,List.getElem?_eq_getElem hi]
  exact(hl _ (List.getElem_mem hi)).2.2
 clear hT h hl hd dO hrow
 obtain⟨n,hn'⟩:∃ n,n=l.length:=⟨_,rfl⟩
 rw[← hn'] at HU HP hn h2 ⊢
 have HN:Hid (n=l.length):=hn'
 clear hn'
 go_enter Tryz.func69,Tryz.ntmps69
 go_wp2_with fail
 obtain⟨w0,aH,g0,hz0,R0⟩:=q0x w [.int .i64 0,.int .i64 0] 29
 rw[aH]
 clear aH
 refine Calls.mono (P:=Tryz.prog) (HU.out _ g0) ?_
 intro e1 w1 hs
 obtain⟨c,a,rfl,g1,hv⟩:=hs
 obtain⟨rfl,rfl⟩:c=0∧a=0:=by
  rcases hv with ⟨h1,h2,-⟩|⟨i,-,-,h3,h4,-⟩
  ·exact⟨h1,h2⟩
  ·exact absurd (HFin.out i h3) h4
 clear hv HFin HU
 have S0:Hid (Rec _ _ _):=Rec.G R0.out (g1)
 have qM:=G.trans g0 g1
 clear R0 g0 hz0 g1
 go_wp2_with fail
 refine Calls.mono (P:=Tryz.prog) (q8q _ pa n ca) ?_
 rintro e w3 ⟨rfl,hw3⟩
 have hg3:G w w3:=by rw[hw3];exact(qM.alloc _).alloc _
 have hs3:w1.heap.size+2≤w3.heap.size:=by rw[hw3];simp
 have hB3:w3.cell? ⟨w1.heap.size+1,0,none⟩=some (.slice pa n ca):=by
  have h:=(Rec.new1 (w1.alloc (.cells #[.int .i64 0,.int .i64 0] 29)) (.slice pa n ca) 68).cell 0
  rw[World.size_alloc] at h
  rw[hw3];exact h
 have S3:Hid (Rec w3 w.heap.size [.int .i64 0,.int .i64 0]):=by
  show Rec _ _ _
  rw[hw3]
  exact Rec.G S0.out (((G.refl w1).alloc _).alloc _)
 have hbs:w.heap.size<w1.heap.size:=S0.out.lt
 rw[World.size_alloc]
 have O6:=q4u (w1.heap.size+1) (.slice pa n ca) l (by have:=HN.out;omega) (by rintro rfl;have:=HN.out;simp at this;omega) (fun p hp=>(HL.out p hp).2.2) w3 w.heap.size (by omega) hg3.size hB3 (PSlB.below HP.out hg3)
 have BA:Hid _:=O6
 have qw:Hid (G w w3):=hg3
 clear O6 hg3 hB3 hw3 S0 qM
 go_wp2_with fail
 refine Calls.mono (P:=Tryz.prog) BA.out ?_
 rintro e w4 ⟨v4,s,rfl,hO4,hpm,hso,hg4⟩
 have hns:n=s.length:=by rw[HN.out];exact hpm.length_eq.symm
 have xW:s≠[]:=by rintro rfl;simp at hns;omega
 have HS:Hid (∀ p∈s,PtOk p):=fun p hp=>HL.out p (hpm.mem_iff.1 hp)
 obtain⟨b4,c4,rfl,hc4⟩:=hO4.form xW
 rw[← hns] at hO4 hc4 ⊢
 have pF:Hid (n=s.length):=hns
 have Kk:Hid (s.Perm l∧q21 s∧s≠[]):=⟨hpm,hso,xW⟩
 have ma:Hid (POwn w4 w3.heap.size (.slice (some ⟨b4,0,none⟩) n c4) s):=hO4
 have O7:Hid (G w w4):=G.trans qw.out hg4
 have S4:Hid (Rec w4 w.heap.size [.int .i64 0,.int .i64 0]):=Rec.G S3.out hg4
 have O8:Hid _:=q6J w4 _ s hO4.psl (HD.out s hpm) (by omega)
 clear hO4 hpm hso hg4 hns xW BA S3 qw
 go_wp2_with fail
 refine Calls.mono (P:=Tryz.prog) O8.out ?_
 rintro e w5 ⟨rfl,hg5⟩
 have mf:Hid (POwn w5 w3.heap.size (.slice (some ⟨b4,0,none⟩) n c4) s):=ma.out.G hg5
 have Kl:Hid (G w w5):=G.trans O7.out hg5
 have S5:Hid (Rec w5 w.heap.size [.int .i64 0,.int .i64 0]):=Rec.G S4.out hg5
 have hs5:w3.heap.size≤w5.heap.size:=by have:=mf.out.atLeast rfl;omega
 have yo:Hid _:=q91 w5 _ s (HT.out.G Kl.out) mf.out.psl HS.out (by have:=pF.out;omega)
 have O9:decide ((n:Int)<2)=false:=decide_eq_false (by omega)
 clear O8 ma O7 S4 hg5
 go_wp2_with fail
 refine Calls.mono (P:=Tryz.prog) yo.out ?_
 rintro e w6 ⟨vb,rfl,Df,Dg⟩
 have hbl:=q4g (l:=s) (by have:=pF.out;omega)
 obtain⟨b6,c6,rfl,hc6⟩:=Dg.form (by intro e;have:=congrArg List.length e;simp at this;rw[this] at hbl;simp at hbl)
 have SN:=mf.out.atLeast rfl
 have SV:=Dg.atLeast rfl
 have Oa:Hid _:=q6H w6 w3.heap.size _ s (mf.out.G Df) Kk.out.2.2 (by have:=pF.out;omega)
 have Ob:Hid (POwn w6 w5.heap.size _ (q0M [] s).reverse):=Dg
 have Oc:Hid (G w w6):=G.trans Kl.out Df
 have S6:Hid (Rec w6 w.heap.size [.int .i64 0,.int .i64 0]):=Rec.G S5.out Df
 clear yo mf Kl S5 Df Dg
 go_wp2_with fail
 refine Calls.mono (P:=Tryz.prog) Oa.out ?_
 rintro e w7 ⟨rfl,Cw,hon⟩
 have mh:G w w7:=hon.g w (by omega) Oc.out
 have BV:=Ob.out.onto hon (fun g e=>by
  have e:b6=g:=Option.some.inj e
  subst e
  intro e2
  have e2:b4=b6:=Option.some.inj e2
  omega)
 have S7:Hid (Rec w7 w.heap.size [.int .i64 0,.int .i64 0]):=hon.r S6.out (by
  intro e
  have e:b4=w.heap.size:=Option.some.inj e
  omega)
 have bg:Hid _:=q91 w7 _ s.reverse (HT.out.G mh) Cw.psl (fun p hp=>HS.out p (List.mem_reverse.1 hp)) (by have:=pF.out;simp;omega)
 have Od:Hid (POwn w7 w5.heap.size _ (q0M [] s).reverse):=BV
 have Oe:Hid (G w w7):=mh
 clear Oa Ob Oc S6 mh Cw BV hon
 go_wp2_with fail
 refine Calls.mono (P:=Tryz.prog) bg.out ?_
 rintro e w8 ⟨va,rfl,rG,Ap⟩
 have hal:=q4g (l:=s.reverse) (by have:=pF.out;simp;omega)
 obtain⟨b8,c8,rfl,hc8⟩:=Ap.form (by intro e;have:=congrArg List.length e;simp at this;rw[this] at hal;simp at hal)
 have Og:Hid (POwn w8 w7.heap.size _ (q0M [] s.reverse).reverse):=Ap
 have BX:Hid (POwn w8 w5.heap.size _ (q0M [] s).reverse):=Od.out.G rG
 have Oh:Hid (G w w8):=G.trans Oe.out rG
 have S8:Hid (Rec w8 w.heap.size [.int .i64 0,.int .i64 0]):=Rec.G S7.out rG
 clear bg Od Oe S7 rG Ap
 go_wp2_with fail
 have Km:(q0M [] s).length≤60:=by have:=q5e (r:=[]) (l:=s);have:=pF.out;simp at *;omega
 have Kn:(q0M [] s.reverse).length≤60:=by have:=q5e (r:=[]) (l:=s.reverse);have:=pF.out;simp at *;omega
 obtain⟨nb,hnb⟩:∃ nb,nb+1=(q0M [] s).length:=⟨(q0M [] s).length-1,by omega⟩
 obtain⟨na,hna⟩:∃ na,na+1=(q0M [] s.reverse).length:=⟨(q0M [] s.reverse).length-1,by omega⟩
 obtain⟨B,hB⟩:∃ B,B=(q0M [] s).reverse.dropLast:=⟨_,rfl⟩
 obtain⟨A,hA⟩:∃ A,A=(q0M [] s.reverse).reverse.dropLast:=⟨_,rfl⟩
 have HF:Hid (B++A=q7t s):=by show B++A=_;rw[hB,hA];rfl
 have Ko:Hid (POwn w8 w5.heap.size (.slice (some ⟨b6,0,none⟩) nb c6) B):=by
  have h:=BX.out.cut (k:=nb) (by simp;omega)
  show POwn _ _ _ _
  rw[hB,List.dropLast_eq_take,List.length_reverse,← hnb]
  exact h
 have Oi:Hid (POwn w8 w7.heap.size (.slice (some ⟨b8,0,none⟩) na c8) A):=by
  have h:=Og.out.cut (k:=na) (by simp;omega)
  show POwn _ _ _ _
  rw[hA,List.dropLast_eq_take,List.length_reverse,← hna]
  exact h
 have Kq:Hid (B.length=nb):=by show _=_;rw[hB];simp;omega
 have Kr:Hid (A.length=na):=by show _=_;rw[hA];simp;omega
 rw[List.length_reverse,← hnb] at hc6
 rw[List.length_reverse,← hna] at hc8
 rw[← hnb,← hna]
 rw[← hnb] at Km hbl
 rw[← hna] at Kn hal
 clear hnb hna hB hA Og BX
 have Oj:Hid (∀ W,POwn W w5.heap.size (.slice (some ⟨b6,0,none⟩) nb c6) B→POwn W w7.heap.size (.slice (some ⟨b8,0,none⟩) na c8) A→w5.heap.size≤W.heap.size→_):=fun W h1 h2 h3=>q2K W w5.heap.size _ B A h1 h3 ⟨b8,0,none⟩ na c8 Kr.out h2.cells (by rw[Kq.out,Kr.out];omega) (by rw[Kr.out];omega)
 have Kt:w5.heap.size≤w8.heap.size:=by have:=Ko.out;rcases this with ⟨e,-⟩|⟨g,cap,cur,e,h1,h2,-⟩;· cases e
                                       ·have:=q1F h2;omega
 have hwb:IntKind.i64.wrap (nb:Int)=(nb:Int):=by rw[IntKind.wrap_i64];omega
 have Ct:IntKind.i64.wrap (na:Int)=(na:Int):=by rw[IntKind.wrap_i64];omega
 have hcb:nb≤c6:=by omega
 have dO:na≤c8:=by omega
 refine wp_region_any (by kernel_rfl) ?_
 refine q08 (i:=0) (v:= ?_) rfl (by kernel_rfl) (by kernel_rfl) (by kernel_rfl) (fun _ _ _ h=>h) (Or.inl ⟨by rfl,?_⟩) ?_
 rotate_left
 ·intro wq;first|(go_simp;done)|(go_simp;with_reducible rfl)
 try simp only[Act.put,List.setIfInBounds_toArray,List.set_cons_zero,List.set_cons_succ]
 refine q08 (i:=1) (v:= ?_) rfl (by kernel_rfl) (by kernel_rfl) (by kernel_rfl) (fun _ _ _ h=>h) (Or.inl ⟨by rfl,?_⟩) ?_
 rotate_left
 ·intro wq;first|(go_simp;done)|(go_simp;with_reducible rfl)
 try simp only[Act.put,List.setIfInBounds_toArray,List.set_cons_zero,List.set_cons_succ]
 refine q08 (i:=2) (v:= ?_) rfl (by kernel_rfl) (by kernel_rfl) (by kernel_rfl) (fun _ _ _ h=>h) (Or.inl ⟨by rfl,?_⟩) ?_
 rotate_left
 ·intro wq;first|(go_simp;done)|(go_simp;with_reducible rfl)
 try simp only[Act.put,List.setIfInBounds_toArray,List.set_cons_zero,List.set_cons_succ]
 refine q08 (i:=3) (v:= ?_) rfl (by kernel_rfl) (by kernel_rfl) (by kernel_rfl) (fun _ _ _ h=>h) (Or.inl ⟨by rfl,?_⟩) ?_
 rotate_left
 ·intro wq;first|(go_simp;done)|(go_simp;with_reducible rfl)
 try simp only[Act.put,List.setIfInBounds_toArray,List.set_cons_zero,List.set_cons_succ]
 refine q08 (i:=4) (v:= ?_) rfl (by kernel_rfl) (by kernel_rfl) (by kernel_rfl) (fun _ _ _ h=>h) (Or.inl ⟨by rfl,?_⟩) ?_
 rotate_left
 ·intro wq;first|(go_simp;done)|(go_simp;with_reducible rfl)
 try simp only[Act.put,List.setIfInBounds_toArray,List.set_cons_zero,List.set_cons_succ]
 refine q08 (i:=5) (v:= ?_) rfl (by kernel_rfl) (by kernel_rfl) (by kernel_rfl) (fun _ _ _ h=>h) (Or.inl ⟨by rfl,?_⟩) ?_
 rotate_left
 ·intro wq;first|(go_simp;done)|(go_simp;with_reducible rfl)
 try simp only[Act.put,List.setIfInBounds_toArray,List.set_cons_zero,List.set_cons_succ]
 refine q08 (i:=6) (v:= ?_) rfl (by kernel_rfl) (by kernel_rfl) (by kernel_rfl) (fun _ _ _ h=>h) (Or.inl ⟨by rfl,?_⟩) ?_
 rotate_left
 ·intro wq;first|(go_simp;done)|(go_simp;with_reducible rfl)
 try simp only[Act.put,List.setIfInBounds_toArray,List.set_cons_zero,List.set_cons_succ]
 refine q08 (i:=7) (v:= ?_) rfl (by kernel_rfl) (by kernel_rfl) (by kernel_rfl) (fun _ _ _ h=>h) (Or.inl ⟨by rfl,?_⟩) ?_
 rotate_left
 ·intro wq;first|(go_simp;done)|(go_simp;with_reducible rfl)
 try simp only[Act.put,List.setIfInBounds_toArray,List.set_cons_zero,List.set_cons_succ]
 refine q08 (i:=8) (v:= ?_) rfl (by kernel_rfl) (by kernel_rfl) (by kernel_rfl) (fun _ _ _ h=>h) (Or.inl ⟨by rfl,?_⟩) ?_
 rotate_left
 ·intro wq;first|(go_simp;done)|(go_simp;with_reducible rfl)
 try simp only[Act.put,List.setIfInBounds_toArray,List.set_cons_zero,List.set_cons_succ]
 refine q08 (i:=9) (v:= ?_) rfl (by kernel_rfl) (by kernel_rfl) (by kernel_rfl) (fun _ _ _ h=>h) (Or.inl ⟨by rfl,?_⟩) ?_
 rotate_left
 ·intro wq;first|(go_simp;done)|(go_simp;with_reducible rfl)
 try simp only[Act.put,List.setIfInBounds_toArray,List.set_cons_zero,List.set_cons_succ]
 refine q08 (i:=11) (v:= ?_) rfl (by kernel_rfl) (by kernel_rfl) (by kernel_rfl) (fun _ _ _ h=>h) (Or.inl ⟨by rfl,?_⟩) ?_
 rotate_left
 ·intro wq;first|(go_simp;done)|(go_simp;with_reducible rfl)
 try simp only[Act.put,List.setIfInBounds_toArray,List.set_cons_zero,List.set_cons_succ]
 show wpAny _ _ _ _ _ _ _ w8.drew
 have hdr:G w8 w8.drew:=(G.refl _).drew
 have Ol:Hid (G w w8.drew):=G.trans Oh.out hdr
 have S9:Hid (Rec w8.drew w.heap.size [.int .i64 0,.int .i64 0]):=Rec.G S8.out hdr
 obtain⟨v9,aX,hrun,xX,hon⟩:=Oj.out w8.drew (Ko.out.G hdr) (Oi.out.G hdr) Kt
 obtain⟨a10,c10,rfl⟩:=xX.len
 have hgw:Hid (G w aX):=hon.g w (by omega) Ol.out
 have yj:Hid (Rec aX w.heap.size [.int .i64 0,.int .i64 0]):=hon.r S9.out (by
  intro e
  have e:b6=w.heap.size:=Option.some.inj e
  omega)
 have BZ:Hid (POwn aX w5.heap.size (.slice a10 (B++A).length c10) (B++A)):=xX
 clear Oj Ko Oi Oh S8 hdr Ol S9 xX hon
 generalize w8.drew=w9 at *
 refine wpAny_ready (rs:=[10]) (by kernel_rfl) (by simp) ?_
 refine AllReady.cons rfl (fun K hK=> ?_) AllReady.nil
 refine q8h w9 (.tmp 33) (.tmp 38) 68 rfl _ _ rfl rfl hrun ?_
 refine hK _ _ ?_
 clear hK K hrun
 simp only[Act.put,List.setIfInBounds_toArray]
 have Ku:Hid (POwn (World.setCell (World.setCell aX ⟨w.heap.size,0,none⟩ (.int .i64 0)) ⟨w.heap.size,1,none⟩ (.int .i64 0)) w.heap.size (.slice a10 (B++A).length c10) (q7t s)):=by
  have h1:POwn aX (w.heap.size+1) (.slice a10 (B++A).length c10) (q7t s):=by rw[← HF.out];exact BZ.out.base (by omega)
  have h2:=h1.oth (w':=World.setCell aX ⟨w.heap.size,0,none⟩ (.int .i64 0)) (b:=w.heap.size) (h1.own (Or.inl (by omega))) (fun k hk=>q2X hk)
  have h3:=h2.oth (w':=World.setCell (World.setCell aX ⟨w.heap.size,0,none⟩ (.int .i64 0)) ⟨w.heap.size,1,none⟩ (.int .i64 0)) (b:=w.heap.size) (h2.own (Or.inl (by omega))) (fun k hk=>q2X hk)
  exact h3.base (Nat.le_succ _)
 clear BZ HF
 generalize (B++A).length=nn at *
 refine q08 (i:=12) (v:= ?_) rfl (by kernel_rfl) (by kernel_rfl) (by kernel_rfl) (fun _ _ _ h=>h) (Or.inl ⟨by rfl,?_⟩) ?_
 rotate_left
 ·intro wq;first|(go_simp;done)|(go_simp;with_reducible rfl)
 simp only[Act.put]
 have kS:=Rec.f2 (Rec.G yj.out (G.refl _))
 have Dh:=kS.1
 have Di:=kS.2.1
 have Dj:=kS.2.2.1
 have Dk:=kS.2.2.2
 clear kS
 refine wpAny_ready (rs:=[13]) (by kernel_rfl) (by simp) ?_
 refine AllReady.cons rfl (fun K hK=> ?_) AllReady.nil
 go_simp
 refine hK _ _ ?_
 clear hK K
 refine wpAny_done (by kernel_rfl) ?_ _
 go_wp2_with fail
 have hT:Hid (Rec (World.setCell (World.setCell aX ⟨w.heap.size,0,none⟩ (.int .i64 0)) ⟨w.heap.size,1,none⟩ (.int .i64 0)) (w.heap.size) [.int .i64 0,.int .i64 0]):=Rec.set2 (Rec.G yj.out (G.refl _))
 have g11:=Rec.g2 (b:=w.heap.size) (u:= .int .i64 0) (v:= .int .i64 0) (hgw.out) (by omega)
 generalize (World.setCell (World.setCell aX ⟨w.heap.size,0,none⟩ (.int .i64 0)) ⟨w.heap.size,1,none⟩ (.int .i64 0))=bC at *
 have hF:=Rec.f2 (Rec.G hT.out ((G.refl _)))
 have bP:=hF.1
 have bQ:=hF.2.1
 have bR:=hF.2.2.1
 have bS:=hF.2.2.2
 clear hF
 have je:=Rec.lt hT.out
 refine bodyPost_ret (v:= .tuple #[.slice a10 nn c10,.agg #[.int .i64 0,.int .i64 0]]) (by simp [results,Tryz.results69,go_sem, *]) rfl ?_
 exact⟨_,s,rfl,g11,Kk.out.1,Kk.out.2.1,Ku.out⟩
end Go.Proofs.YtljkfjjchkehaaaGreatDoor.EN
namespace Go.Proofs.YtljkfjjchkehaaaGreatDoor.EN
open Go.ChangeShapes Go.WideShapes Go.ChangeAt Go.RowKit
/-- The five points of the law, and their order. -/
def five:List (Nat×Nat):=[(4607182418800017408,4607182418800017408),(0,0),(4611686018427387904,0),(4607182418800017408,0),(0,4611686018427387904)]
def fives:List (Nat×Nat):=[(0,0),(0,4611686018427387904),(4607182418800017408,0),(4607182418800017408,4607182418800017408),(4611686018427387904,0)]
theorem q9r:∀ p∈five,PtOk p:=by
 intro p hp
 unfold five at hp
 simp only[List.mem_cons,List.not_mem_nil,or_false] at hp
 rcases hp with rfl|rfl|rfl|rfl|rfl<;>exact⟨by decide,by decide,by decide+kernel,by decide+kernel⟩
theorem q6e:∀ p∈five,∀ q∈five,p≠q→q6T p q:=by
 intro p hp q hq
 unfold five at hp hq
 simp only[List.mem_cons,List.not_mem_nil,or_false] at hp hq
 rcases hp with rfl|rfl|rfl|rfl|rfl<;>rcases hq with rfl|rfl|rfl|rfl|rfl<;>intro h<;>first|exact absurd rfl h|(unfold q6T;decide+kernel)
theorem q5P:five.Nodup:=by decide
theorem q7C:q51 five:=by
 intro s hs k hk
 have hn:s.Nodup:=hs.nodup_iff.2 q5P
 have h1:s.getD (k+1) (0,0)=s[k+1]:=by rw[List.getD_eq_getElem?_getD,List.getElem?_eq_getElem hk];rfl
 have h0:s.getD k (0,0)=s[k]:=by rw[List.getD_eq_getElem?_getD,List.getElem?_eq_getElem (by omega)];rfl
 rw[h1,h0]
 refine q6e _ (hs.mem_iff.1 (List.getElem_mem _)) _ (hs.mem_iff.1 (List.getElem_mem _)) (fun e=> ?_)
 have:=List.pairwise_iff_getElem.1 hn k (k+1) (by omega) hk (by omega)
 exact this e.symm
theorem fives_perm:fives.Perm five:=by decide
theorem q6Y:∀ p∈five,∀ q∈five,¬ ordZ q p<0→¬ ordZ p q<0→p=q:=by
 intro p hp q hq
 unfold five at hp hq
 simp only[List.mem_cons,List.not_mem_nil,or_false] at hp hq
 rcases hp with rfl|rfl|rfl|rfl|rfl<;>rcases hq with rfl|rfl|rfl|rfl|rfl<;>first|(intro _ _;rfl)|(intro h1 h2;exact absurd (by decide+kernel) h1)|(intro h1 h2;exact absurd (by decide+kernel) h2)
theorem q4M {s:List (Nat×Nat)} (h:q21 s):s.Pairwise fun p q=>¬ ordZ q p<0:=by
 rw[List.pairwise_iff_getElem]
 intro i j hi hj hij
 have:=h i j hij hj
 rw[List.getD_eq_getElem?_getD,List.getD_eq_getElem?_getD,List.getElem?_eq_getElem hi,List.getElem?_eq_getElem hj] at this
 exact this
theorem q62:fives.Pairwise fun p q=>¬ ordZ q p<0:=by decide+kernel
theorem q6h {s:List (Nat×Nat)} (hp:s.Perm five) (hs:q21 s):s=fives:=
 List.Perm.eq_of_pairwise (le:=fun p q=>¬ ordZ q p<0) (fun a b ha hb h1 h2=>q6Y a (hp.mem_iff.1 ha) b (fives_perm.mem_iff.1 hb) h1 h2) (q4M hs) q62 (hp.trans fives_perm.symm)
theorem q69:q7t fives=[(0,0),(4611686018427387904,0),(0,4611686018427387904)]:=by decide+kernel
theorem q8r:(q2g 0 0 4607182418800017408 0 0 4607182418800017408).sign=1:=by decide+kernel
theorem q7D:(q4s (fz 0-fz 4607182418800017408) (fz 0-fz 4607182418800017408) (fz 4607182418800017408-fz 4607182418800017408) (fz 0-fz 4607182418800017408) (fz 0-fz 4607182418800017408) (fz 4607182418800017408-fz 4607182418800017408)).sign=0:=by decide+kernel
theorem q6W:∀ k,k<3→q9S ([(0,0),(4611686018427387904,0),(0,4611686018427387904)].getD k (0,0)) ([(0,0),(4611686018427387904,0),(0,4611686018427387904)].getD k (0,0)):=by
 intro k hk
 have:k=0∨k=1∨k=2:=by omega
 rcases this with rfl|rfl|rfl<;>exact⟨by decide+kernel,by decide+kernel⟩
attribute [local go_sem] q0d
theorem q7j {w:World} {b:Nat} {l:List (Nat×Nat)} (h:Rec w b (pl l)):PSl w (.slice (some ⟨b,0,none⟩) l.length l.length) l:=by
 refine⟨_,_,rfl,Nat.le_refl _,fun i hi=>⟨b,0,rfl,h.lt,?_⟩⟩
 obtain⟨k1,k2⟩:=q6p hi
 rw[Nat.zero_add]
 exact⟨(h.cell (i*2)).trans k1,(h.cell (i*2+1)).trans k2⟩
theorem q2b {l:List (Nat×Nat)} {c a:Int} (h:q1M l c a) (hf:FinL l):c=0∧a=0:=by
 rcases h with ⟨h1,h2,-⟩|⟨i,-,-,h3,h4,-⟩
 ·exact⟨h1,h2⟩
 ·exact absurd (hf i h3) h4
set_option maxRecDepth 20000 in
set_option maxHeartbeats 2000000 in
theorem q9W (w:World) (hT:Tab w):Calls Tryz.prog 35 #[] w fun e w'=>e= .returned (.bool true)∧G w w':=by
 have f0:fex 0<2047:=by decide+kernel
 have f1:fex 4607182418800017408<2047:=by decide+kernel
 have kV:Hid (∀ w1,G w w1→_):=fun w1 g=>q90 w1 0 0 4607182418800017408 0 0 4607182418800017408 (hT.G g) (by decide) (by decide) (by decide) (by decide) (by decide) (by decide)
 have qj:Hid (∀ w1,G w w1→_):=fun w1 g=>q5x w1 0 0 4607182418800017408 0 0 4607182418800017408 4607182418800017408 4607182418800017408 (hT.G g) (by decide) (by decide) (by decide) (by decide) (by decide) (by decide) (by decide) (by decide)
 rw[q8r] at kV
 rw[q7D] at qj
 have O5:Hid (∀ w1 v,G w w1→PSl w1 v five→_):=fun w1 v g h=>qah w1 v five (hT.G g) h q9r (by decide) (by decide) q7C
 have Co:Hid (∀ w1 v u,PSl w1 v _→PSl w1 u _→_):=fun w1 v u h1 h2=>q7M w1 v u [(0,0),(4611686018427387904,0),(0,4611686018427387904)] [(0,0),(4611686018427387904,0),(0,4611686018427387904)] rfl q6W h1 h2 (by decide)
 have sW:Hid (FinL [(0,0),(4607182418800017408,0),(0,4607182418800017408)]):=by
  intro i hi
  have:i=0∨i=1∨i=2:=by simp at hi;omega
  rcases this with rfl|rfl|rfl<;>exact⟨by first|exact f0|exact f1,by first|exact f0|exact f1⟩
 have sG:Hid (FinL [(0,0),(4607182418800017408,0),(0,4607182418800017408),(4607182418800017408,4607182418800017408)]):=by
  intro i hi
  have:i=0∨i=1∨i=2∨i=3:=by simp at hi;omega
  rcases this with rfl|rfl|rfl|rfl<;>exact⟨by first|exact f0|exact f1,by first|exact f0|exact f1⟩
 clear hT f0 f1
 go_enter Tryz.func35,Tryz.ntmps35
 have hg:=G.refl w
 go_wp2_with (go_at_call 43;refine Calls.mono (P:=Tryz.prog) (pt_c _ _ _) ?_;rintro e wx ⟨rfl,gx⟩;replace hg:=G.trans hg gx;clear gx)
 refine Calls.mono (P:=Tryz.prog) (kV.out _ hg) ?_
 intro e w1 hs
 obtain⟨c,a,t,rfl,g1,hv,ht⟩:=hs
 obtain⟨rfl,rfl⟩:=q2b hv sW.out
 rw[if_pos rfl] at ht
 subst ht
 replace hg:=G.trans hg g1
 have R1:Hid (Rec (w1.alloc (.cells #[.int .i64 0,.int .i64 0] 29)) w1.heap.size [.int .i64 0,.int .i64 0]):=Rec.new2 _ _ _ _
 replace hg:=hg.alloc (.cells #[.int .i64 0,.int .i64 0] 29)
 clear g1 hv kV sW
 go_wp2_with fail
 generalize w1.alloc (.cells #[.int .i64 0,.int .i64 0] 29)=w2 at *
 generalize w1.heap.size=b1 at *
 have hg2:=G.refl w2
 refine Calls.mono (P:=Tryz.prog) (pt_c _ _ _) ?_
 rintro e wx ⟨rfl,gx⟩
 replace hg:=G.trans hg gx
 replace hg2:=G.trans hg2 gx
 clear gx
 go_wp2_with (go_at_call 43;refine Calls.mono (P:=Tryz.prog) (pt_c _ _ _) ?_;rintro e wx ⟨rfl,gx⟩;replace hg:=G.trans hg gx;replace hg2:=G.trans hg2 gx;clear gx)
 refine Calls.mono (P:=Tryz.prog) (qj.out _ hg) ?_
 intro e w3 hs
 obtain⟨c,a,t,rfl,g1,hv,ht⟩:=hs
 obtain⟨rfl,rfl⟩:=q2b hv sG.out
 rw[if_pos rfl] at ht
 subst ht
 replace hg:=G.trans hg g1
 replace hg2:=G.trans hg2 g1
 have R3:Hid (Rec (w3.alloc (.cells #[.int .i64 0,.int .i64 0] 29)) w3.heap.size [.int .i64 0,.int .i64 0]):=Rec.new2 _ _ _ _
 replace hg:=hg.alloc (.cells #[.int .i64 0,.int .i64 0] 29)
 replace hg2:=hg2.alloc (.cells #[.int .i64 0,.int .i64 0] 29)
 replace R1:Hid (Rec _ b1 [.int .i64 0,.int .i64 0]):=Rec.G R1.out hg2
 clear g1 hv qj sG hg2
 go_wp2_with fail
 generalize w3.alloc (.cells #[.int .i64 0,.int .i64 0] 29)=w4 at *
 generalize w3.heap.size=b3 at *
 have hg2:=G.refl w4
 refine Calls.mono (P:=Tryz.prog) (pt_c _ _ _) ?_
 rintro e wx ⟨rfl,gx⟩
 replace hg:=G.trans hg gx
 replace hg2:=G.trans hg2 gx
 clear gx
 go_wp2_with (go_at_call 43;refine Calls.mono (P:=Tryz.prog) (pt_c _ _ _) ?_;rintro e wx ⟨rfl,gx⟩;replace hg:=G.trans hg gx;replace hg2:=G.trans hg2 gx;clear gx)
 have hN:Rec (wx.alloc (.cells #[.float .f64 4607182418800017408,.float .f64 4607182418800017408,.float .f64 0,.float .f64 0,.float .f64 4611686018427387904,.float .f64 0,.float .f64 4607182418800017408,.float .f64 0,.float .f64 0,.float .f64 4611686018427387904] 66)) wx.heap.size (pl five):=Rec.new wx (pl five) 66
 have BU:PSl (wx.alloc (.cells #[.float .f64 4607182418800017408,.float .f64 4607182418800017408,.float .f64 0,.float .f64 0,.float .f64 4611686018427387904,.float .f64 0,.float .f64 4607182418800017408,.float .f64 0,.float .f64 0,.float .f64 4611686018427387904] 66)) (.slice (some ⟨wx.heap.size,0,none⟩) 5 5) five:=q7j hN
 replace hg:=hg.alloc (.cells #[.float .f64 4607182418800017408,.float .f64 4607182418800017408,.float .f64 0,.float .f64 0,.float .f64 4611686018427387904,.float .f64 0,.float .f64 4607182418800017408,.float .f64 0,.float .f64 0,.float .f64 4611686018427387904] 66)
 replace hg2:=hg2.alloc (.cells #[.float .f64 4607182418800017408,.float .f64 4607182418800017408,.float .f64 0,.float .f64 0,.float .f64 4611686018427387904,.float .f64 0,.float .f64 4607182418800017408,.float .f64 0,.float .f64 0,.float .f64 4611686018427387904] 66)
 refine Calls.mono (P:=Tryz.prog) (O5.out _ _ hg BU) ?_
 intro e w5 hs
 obtain⟨v,s,rfl,g1,hpm,hso,hO⟩:=hs
 obtain rfl:=q6h hpm hso
 rw[q69] at hO
 obtain⟨pa,pc,rfl⟩:=hO.len
 replace hg:=G.trans hg g1
 replace hg2:=G.trans hg2 g1
 replace R1:Hid (Rec w5 b1 [.int .i64 0,.int .i64 0]):=Rec.G R1.out hg2
 replace R3:Hid (Rec w5 b3 [.int .i64 0,.int .i64 0]):=Rec.G R3.out hg2
 have bN:G w5 (w5.alloc (.cells #[.int .i64 0,.int .i64 0] 29)):=(G.refl w5).alloc _
 have hV:Hid (PSl (w5.alloc (.cells #[.int .i64 0,.int .i64 0] 29)) _ [(0,0),(4611686018427387904,0),(0,4611686018427387904)]):=hO.psl.G bN
 have R5:Hid (Rec (w5.alloc (.cells #[.int .i64 0,.int .i64 0] 29)) w5.heap.size [.int .i64 0,.int .i64 0]):=Rec.new2 _ _ _ _
 replace R1:Hid (Rec (w5.alloc (.cells #[.int .i64 0,.int .i64 0] 29)) b1 [.int .i64 0,.int .i64 0]):=Rec.G R1.out bN
 replace R3:Hid (Rec (w5.alloc (.cells #[.int .i64 0,.int .i64 0] 29)) b3 [.int .i64 0,.int .i64 0]):=Rec.G R3.out bN
 replace hg:=G.trans hg bN
 clear g1 hpm hso hO BU hN hg2 bN O5
 obtain⟨a1,a2,-⟩:=R1.out.f2
 obtain⟨a3,a4,-⟩:=R3.out.f2
 have hlt:=R5.out.lt
 go_wp2_with fail
 clear a1 a2 a3 a4 hlt R1 R3 R5
 replace hV:=hV.out
 refine Calls.mono (P:=Tryz.prog) (pt_c _ _ _) ?_
 rintro e wx ⟨rfl,gx⟩
 replace hg:=G.trans hg gx
 replace hV:=PSl.G hV gx
 clear gx
 go_wp2_with (go_at_call 43;refine Calls.mono (P:=Tryz.prog) (pt_c _ _ _) ?_;rintro e wx ⟨rfl,gx⟩;replace hg:=G.trans hg gx;replace hV:=PSl.G hV gx;clear gx)
 have hN:Rec (wx.alloc (.cells #[.float .f64 0,.float .f64 0,.float .f64 4611686018427387904,.float .f64 0,.float .f64 0,.float .f64 4611686018427387904] 66)) wx.heap.size (pl [(0,0),(4611686018427387904,0),(0,4611686018427387904)]):=Rec.new wx (pl [(0,0),(4611686018427387904,0),(0,4611686018427387904)]) 66
 have BU:PSl (wx.alloc (.cells #[.float .f64 0,.float .f64 0,.float .f64 4611686018427387904,.float .f64 0,.float .f64 0,.float .f64 4611686018427387904] 66)) (.slice (some ⟨wx.heap.size,0,none⟩) 3 3) [(0,0),(4611686018427387904,0),(0,4611686018427387904)]:=q7j hN
 replace hg:=hg.alloc (.cells #[.float .f64 0,.float .f64 0,.float .f64 4611686018427387904,.float .f64 0,.float .f64 0,.float .f64 4611686018427387904] 66)
 replace hV:=PSl.G hV ((G.refl wx).alloc (.cells #[.float .f64 0,.float .f64 0,.float .f64 4611686018427387904,.float .f64 0,.float .f64 0,.float .f64 4611686018427387904] 66))
 refine Calls.mono (P:=Tryz.prog) (Co.out _ _ _ hV BU) ?_
 rintro e w7 ⟨rfl,g1⟩
 replace hg:=G.trans hg g1
 clear hV BU hN g1 Co
 go_wp2_with fail
 go_ret
 exact⟨rfl,hg⟩
end Go.Proofs.YtljkfjjchkehaaaGreatDoor.EN
