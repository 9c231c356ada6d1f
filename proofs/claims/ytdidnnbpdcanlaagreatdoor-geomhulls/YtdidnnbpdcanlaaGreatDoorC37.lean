/- What is proved here: the library's sort of points by package geom's order, slices.SortedFunc, over this seat's translation.
What is proved here: package geom's Hull of points of which no two are the same, over this seat's translation.
What is proved here: package geom's corners as those of points of whole numbers (units), over this seat's translation. -/
import Derived.Test.YtdidnnbpdcanlaaGreatDoorC35
import Derived.Test.YtdidnnbpdcanlaaGreatDoorC21
import Derived.Test.YtdidnnbpdcanlaaGreatDoorC23
import Derived.Test.YtdidnnbpdcanlaaGreatDoorC15
import Derived.Shelf.SlSortCmp.WholeK
import Derived.Test.YtdidnnbpdcanlaaGreatDoorC34
import Derived.Test.YtdidnnbpdcanlaaGreatDoorC24
namespace Go.Proofs.YtdidnnbpdcanlaaGreatDoor.EN
open Go.ChangeShapes Go.WideShapes Go.ChangeAt Go.RowKit Go.Sort
/-- Points that can be ordered. -/
abbrev Pt:={p:Nat×Nat // FinP p}
theorem fin0:FinP (0,0):=by
 constructor
 ·show fex 0<2047
  decide
 ·show fex 0<2047
  decide
instance:Inhabited Pt:=⟨⟨(0,0),fin0⟩⟩
theorem q6T {a b:Int}:cmpZ a b<0↔a<b:=by unfold cmpZ;split<;>(try split)<;>omega
theorem qae {a b:Int}:cmpZ a b=0↔a=b:=by unfold cmpZ;split<;>(try split)<;>omega
theorem q42 {p q:Nat×Nat}:ordZ p q<0↔fz p.1<fz q.1∨fz p.1=fz q.1∧fz p.2<fz q.2:=by
 unfold ordZ
 have h1:=q6T (a:=fz p.1) (b:=fz q.1)
 have h2:=qae (a:=fz p.1) (b:=fz q.1)
 have h3:=q6T (a:=fz p.2) (b:=fz q.2)
 split<;>omega
theorem swoP:SWO (ltOf fun x y:Pt=>ordZ x.1 y.1) where
 irrefl x:=by unfold ltOf;rw[decide_eq_false_iff_not,q42];omega
 trans x y z h1 h2:=by
  unfold ltOf at *
  rw[decide_eq_true_eq,q42] at *
  omega
 ntrans x y z h1 h2:=by
  unfold ltOf at *
  rw[decide_eq_false_iff_not,q42] at *
  omega
/-- Points in order: no later one is ahead of an earlier one. -/
def q0y (l:List (Nat×Nat)):Prop:=∀ i j,i<j→j<l.length→¬ ordZ (l.getD j (0,0)) (l.getD i (0,0))<0
theorem q63 {l:List (Nat×Nat)} (h:∀ p∈l,FinP p):∃ d:Array Pt,d.toList.map (fun x=>x.1)=l:=by
 refine⟨(l.attach.map fun p=>⟨p.1,h p.1 p.2⟩).toArray,?_⟩
 show List.map _ (List.map _ l.attach)=l
 rw[List.map_map]
 exact List.attach_map_subtype_val l
theorem q6E (w:World) (base:Nat) (v:Value) (l:List (Nat×Nat)) (ho:POwn w base v l) (hne:l≠[]) (hf:∀ p∈l,FinP p) (hn:l.length≤1000000):
  Calls Tryz.prog 82 #[v,.func (.func 42) #[] #[]] w fun e w'=>e= .returned (.tuple #[])∧∃ l',POwn w' base v l'∧l'.Perm l∧q0y l'∧OntoP base v w w':=by
 obtain⟨d,hd⟩:=q63 hf
 rw[← hd] at ho hn hne ⊢
 have hv:∃ g cap,v= .slice (some ⟨g,0,none⟩) d.size cap:=by
  rcases ho with ⟨-,e⟩|⟨g,cap,cur,e,-⟩
  ·exact absurd e hne
  ·exact⟨g,cap,by rw[e];simp⟩
 obtain⟨g,cap,rfl⟩:=hv
 obtain⟨hH,hg,-,-⟩:=q2D _ ho
 have hc:=AnyQ.slices_SortFunc Tryz.sortP 2 (fun w=>Tryz.isAgg32 w) (fun w=>Tryz.sizeOf32 w) (fun x:Pt=>encP x.1) (fun _=>rfl) (fun x u hu=>by
   simp only[encP,List.mem_cons,List.not_mem_nil,or_false] at hu
   rcases hu with rfl|rfl<;>rfl) (fun x y=>ordZ x.1 y.1) swoP 42 #[] g 0 cap d w (enters_of Tryz.func42 (by kernel_rfl) rfl)
   (fun m os dk _ x y=>qab _ x.1 y.1 x.2 y.2) hH hg (by simp at hn;omega)
 refine Calls.mono hc ?_
 rintro e w' ⟨rfl,d',n,os,hp,hs,rfl⟩
 obtain⟨h1,h2⟩:=q49 (fun x:Pt=>x.1) (m:=n) (os:=os) ho hp.1
 refine⟨rfl,d'.toList.map (fun x=>x.1),h1,?_,?_,h2⟩
 ·have:=hp.2.2
  rw[← hp.1,Array.extract_size,hp.1,Array.extract_size] at this
  exact this.map _
 ·intro i j hij hj
  simp only[List.length_map,Array.length_toList] at hj
  have:=hs i j (Nat.zero_le _) hij (by rw[← hp.1];exact hj)
  unfold ltOf at this
  rw[decide_eq_false_iff_not] at this
  have e:∀ k,k<d'.size→(d'.toList.map (fun x=>x.1)).getD k (0,0)=(d'[k]!).1:=by
   intro k hk
   rw[List.getD_eq_getElem?_getD,List.getElem?_eq_getElem (by simpa using hk),getElem!_pos d' k hk]
   simp
  rw[e j hj,e i (by omega)]
  exact this
/-- slices.SortedFunc(slices.Values(l), order). -/
theorem q2H (Bs:Nat) (sv:Value) (zs:List (Nat×Nat)) (hlen:zs.length≤1000000) (hne:zs≠[]) (hf:∀ p∈zs,FinP p) (w:World) (n₀:Nat) (oL:Bs<w.heap.size) (hn0:n₀≤w.heap.size)
  (hc:w.cell? ⟨Bs,0,none⟩=some sv) (hI:PSlB n₀ w sv zs):
  Calls Tryz.prog 40 #[.func (.func 83) #[] #[.pointer (some ⟨Bs,0,none⟩)],.func (.func 42) #[] #[]] w fun e w'=>∃ v l',e= .returned v∧POwn w' w.heap.size v l'∧l'.Perm zs∧q0y l'∧G w w':=by
 have HC:Hid _:=q4S Bs n₀ sv zs hlen w oL hn0 hc hI
 have HS:Hid (∀ w1 v,POwn w1 w.heap.size v zs→_):=fun w1 v h=>q6E w1 w.heap.size v zs h hne hf hlen
 clear hc hI hlen hf hne
 go_enter Tryz.func40,Tryz.ntmps40
 go_wp2_with fail
 refine Calls.mono (P:=Tryz.prog) HC.out ?_
 rintro e w1 ⟨v,rfl,h1,h2⟩
 obtain⟨pa,pc,rfl⟩:=h1.len
 have HG:Hid (G w w1):=h2
 have HO:Hid _:=h1
 clear h1 h2
 go_wp2_with fail
 refine Calls.mono (P:=Tryz.prog) (HS.out _ _ HO.out) ?_
 rintro e w2 ⟨rfl,l',h3,h4,h5,h6⟩
 have HF:Hid (POwn w2 w.heap.size _ l'∧l'.Perm zs∧q0y l'∧G w w2):=⟨h3,h4,h5,h6.g w (Nat.le_refl _) HG.out⟩
 clear h3 h4 h5 h6
 go_wp2_with fail
 go_ret
 exact⟨_,l',rfl,HF.out⟩
end Go.Proofs.YtdidnnbpdcanlaaGreatDoor.EN
namespace Go.Proofs.YtdidnnbpdcanlaaGreatDoor.EN
open Go.ChangeShapes Go.WideShapes Go.ChangeAt Go.RowKit
attribute [local go_sem] q0d
theorem POwn.psl {w:World} {base:Nat} {v:Value} {l:List (Nat×Nat)} (h:POwn w base v l):PSl w v l:=by
 rcases h with ⟨rfl,rfl⟩|⟨b,cap,cur,rfl,h1,h2,h3,h4,h5,h6,h7⟩
 ·exact⟨none,0,rfl,Nat.le_refl _,fun i hi=>nomatch hi⟩
 ·refine⟨_,cap,rfl,h3,fun i hi=> ?_⟩
  obtain⟨k1,k2⟩:=POwn.cellAt h2 h6 hi
  exact⟨b,0,rfl,q1l h2,by rw[Nat.zero_add];exact k1,by rw[Nat.zero_add];exact k2⟩
theorem POwn.onto {w w':World} {base base':Nat} {u v:Value} {m:List (Nat×Nat)} (h:POwn w base' u m) (o:OntoP base v w w') (hne:∀ g,u.ownBlock=some g→v.ownBlock≠some g):POwn w' base' u m:=by
 rcases h with h|⟨g,cap,cur,rfl,h1,h2,h3⟩
 ·exact Or.inl h
 ·exact Or.inr ⟨g,cap,cur,rfl,h1,(o.h g (q1l h2) (hne g rfl)).trans h2,h3⟩
theorem POwn.atLeast {w:World} {base g:Nat} {u:Value} {m:List (Nat×Nat)} (h:POwn w base u m) (e:u.ownBlock=some g):base≤g∧g<w.heap.size:=by
 rcases h with ⟨rfl,-⟩|⟨b,cap,cur,rfl,h1,h2,-⟩
 ·cases e
 ·have:=Option.some.inj (e:some b=some g)
  subst this
  exact⟨h1,q1l h2⟩
theorem POwn.cells {w:World} {base g n cap:Nat} {m:List (Nat×Nat)} (h:POwn w base (.slice (some ⟨g,0,none⟩) n cap) m):∀ j u,(pl m)[j]? =some u→w.cell? ((⟨g,0,none⟩:Addr).add j)=some u:=by
 rcases h with ⟨e,-⟩|⟨b',cap',cur,e,h1,h2,h3,h4,h5,h6,h7⟩
 ·cases e
 ·injection e with e1 e2 e3
  injection e1 with e1
  injection e1 with e1
  subst e1;subst e3
  intro j u hu
  have hj:j<m.length*2:=by rw[← q1L m];exact(List.getElem?_eq_some_iff.1 hu).1
  have hadd:(⟨g,0,none⟩:Addr).add j=⟨g,j,none⟩:=by unfold Addr.add;split<;>simp_all
  rw[hadd]
  simp only[World.cell?,h2]
  rw[← h6,List.getElem?_take,if_pos hj] at hu
  simpa using hu
theorem POwn.form {w:World} {base:Nat} {v:Value} {m:List (Nat×Nat)} (h:POwn w base v m) (hm:m≠[]):∃ g cap,v= .slice (some ⟨g,0,none⟩) m.length cap∧m.length≤cap:=by
 rcases h with ⟨-,e⟩|⟨g,cap,cur,rfl,h1,h2,h3,-⟩
 ·exact absurd e hm
 ·exact⟨g,cap,rfl,h3⟩
theorem PSl.bel {w:World} {v:Value} {l:List (Nat×Nat)} (h:PSl w v l):PSlB w.heap.size w v l:=h
theorem q8m {p:Nat×Nat}:∀ {r:List (Nat×Nat)},r≠[]→popR p r≠[]
 |[],h=>absurd rfl h
 |[_],_=>by unfold popR;simp
 |b::a::r,_=>by
  unfold popR
  split
  ·simp
  ·exact q8m (by simp)
theorem q7Z (r l m:List (Nat×Nat)):q0v r (l++m)=q0v (q0v r l) m:=List.foldl_append
theorem q7f {r l:List (Nat×Nat)} (hl:l≠[]):(if r=[] then 1 else 2)≤(q0v r l).length:=by
 obtain⟨m,p,rfl⟩:∃ m p,l=m++[p]:=⟨l.dropLast,l.getLast hl,(List.dropLast_concat_getLast hl).symm⟩
 rw[q7Z]
 show _≤(p::popR p (q0v r m)).length
 by_cases hr:r=[]
 ·rw[if_pos hr];simp
 ·rw[if_neg hr]
  have:q0v r m≠[]:=by
   clear hl
   induction m generalizing r with
   |nil=>exact hr
   |cons q m ih=>exact ih (r:=q::popR q r) (by simp)
  have:=List.length_pos_iff.2 (q8m (p:=p) this)
  simp
  omega
theorem q2h {l:List (Nat×Nat)} (h:2≤l.length):2≤(q0v [] l).length:=by
 rcases l with _|⟨p,l⟩
 ·simp at h
 ·have:=q7f (r:=[p]) (l:=l) (by rintro rfl;simp at h)
  rw[if_neg (by simp)] at this
  exact this
theorem q4M {r l:List (Nat×Nat)}:∀ q∈q0v r l,q∈r∨q∈l:=by
 induction l generalizing r with
 |nil=>intro q hq;exact Or.inl hq
 |cons p l ih=>
  intro q hq
  rcases ih (r:=p::popR p r) q hq with h|h
  ·rcases List.mem_cons.1 h with rfl|h
   ·exact Or.inr (by simp)
   ·exact Or.inl (q5V q h)
  ·exact Or.inr (List.mem_cons_of_mem _ h)
theorem q1U {r l:List (Nat×Nat)}:(q0v r l).length≤r.length+l.length:=by
 induction l generalizing r with
 |nil=>exact Nat.le_refl _
 |cons p l ih=>
  have h1:=ih (r:=p::popR p r)
  have h2:=q5M (p:=p) (r:=r)
  show (q0v (p::popR p r) l).length≤_
  simp only[List.length_cons] at h1 ⊢
  omega
/-- The corners, out of the points in their order. -/
def q2r (s:List (Nat×Nat)):List (Nat×Nat):=(q0v [] s).reverse.dropLast++(q0v [] s.reverse).reverse.dropLast
def qaC (w:World) (l:List (Nat×Nat)) (e:Ending) (w':World):Prop:=∃ v s,e= .returned (.tuple #[v,.agg #[.int .i64 0,.int .i64 0]])∧G w w'∧s.Perm l∧q0y s∧POwn w' w.heap.size v (q2r s)
/-- No two are the same. -/
def q5d (l:List (Nat×Nat)):Prop:=∀ s:List (Nat×Nat),s.Perm l→∀ k,k+1<s.length→q81 (s.getD (k+1) (0,0)) (s.getD k (0,0))
theorem q1w {P:Program} (w:World) {o:Oper} {a:Act} {K:Act→World→Prop} {Q:Exit→Act→World→Prop} (s x:Operand) (t:TypeId)
  (ho:o.op= .call {callee:= .builtin .append,args:=#[s,x],argTypes:=#[t,t]}) (v sl:Value) (hs:a.eval s=v) (hx:a.eval x=sl) {v':Value} {w':World}
  (hr:(Builtin.append_ #[t,t] o.type #[v,sl]).run P w= .ok v' w') (h:K (a.put o.dst v') w'):o.wp P a w K Q:=by
 unfold Oper.wp execOp
 simp only[ho,resolve,invoke,builtin,Sem.run_bind,Sem.run_pure,Result.andThen_ok,List.map_toArray,List.map_cons,List.map_nil,hs,hx,hr]
 exact h
set_option maxRecDepth 20000 in
set_option maxHeartbeats 2000000 in
theorem qaT (w:World) (v:Value) (l:List (Nat×Nat)) (hT:Tab w) (h:PSl w v l) (hl:∀ p∈l,PtOk p) (h2:2≤l.length) (hn:l.length≤60) (hd:q5d l):Calls Tryz.prog 9 #[v] w (qaC w l):=by
 obtain⟨pa,ca,rfl,dB,hrow⟩:=id h
 have HT:Hid (Tab w):=hT
 have HP:Hid (PSl w (.slice pa l.length ca) l):=h
 have HL:Hid (∀ p∈l,PtOk p):=hl
 have HD:Hid (q5d l):=hd
 have HU:Hid (∀ w1,G w w1→_):=fun w1 g=>q2x w1 _ l (h.G g) (fun i hi=>by
  have:=hl _ (List.getElem_mem hi)
  rw[List.getD_eq_getElem?_getD,List.getElem?_eq_getElem hi]
  exact⟨this.1,this.2.1⟩) hn
 have HFin:Hid (∀ i,i<l.length→FinP (l.getD i (0,0))):=fun i hi=>by
  rw[List.getD_eq_getElem?_getD,List.getElem?_eq_getElem hi]
  exact(hl _ (List.getElem_mem hi)).2.2
 clear hT h hl hd dB hrow
 obtain⟨n,hn'⟩:∃ n,n=l.length:=⟨_,rfl⟩
 rw[← hn'] at HU HP hn h2 ⊢
 have HN:Hid (n=l.length):=hn'
 clear hn'
 go_enter Tryz.func9,Tryz.ntmps9
 go_wp2_with fail
 obtain⟨w0,aL,g0,hz0,R0⟩:=q0B w [.int .i64 0,.int .i64 0] 26
 rw[aL]
 clear aL
 refine Calls.mono (P:=Tryz.prog) (HU.out _ g0) ?_
 intro e1 w1 hs
 obtain⟨c,a,rfl,g1,hv⟩:=hs
 obtain⟨rfl,rfl⟩:c=0∧a=0:=by
  rcases hv with ⟨h1,h2,-⟩|⟨i,-,-,h3,h4,-⟩
  ·exact⟨h1,h2⟩
  ·exact absurd (HFin.out i h3) h4
 clear hv HFin HU
 have S0:Hid (Rec _ _ _):=Rec.G R0.out (g1)
 have mI:=G.trans g0 g1
 clear R0 g0 hz0 g1
 go_wp2_with fail
 refine Calls.mono (P:=Tryz.prog) (q3U _ pa n ca) ?_
 rintro e w3 ⟨rfl,hw3⟩
 have hg3:G w w3:=by rw[hw3];exact(mI.alloc _).alloc _
 have hs3:w1.heap.size+2≤w3.heap.size:=by rw[hw3];simp
 have hB3:w3.cell? ⟨w1.heap.size+1,0,none⟩=some (.slice pa n ca):=by
  have h:=(Rec.new1 (w1.alloc (.cells #[.int .i64 0,.int .i64 0] 26)) (.slice pa n ca) 22).cell 0
  rw[World.size_alloc] at h
  rw[hw3];exact h
 have S3:Hid (Rec w3 w.heap.size [.int .i64 0,.int .i64 0]):=by
  show Rec _ _ _
  rw[hw3]
  exact Rec.G S0.out (((G.refl w1).alloc _).alloc _)
 have hbs:w.heap.size<w1.heap.size:=S0.out.lt
 rw[World.size_alloc]
 have Es:=q2H (w1.heap.size+1) (.slice pa n ca) l (by have:=HN.out;omega) (by rintro rfl;have:=HN.out;simp at this;omega) (fun p hp=>(HL.out p hp).2.2) w3 w.heap.size (by omega) hg3.size hB3 (PSlB.below HP.out hg3)
 have rW:Hid _:=Es
 have nI:Hid (G w w3):=hg3
 clear Es hg3 hB3 hw3 S0 mI
 go_wp2_with fail
 refine Calls.mono (P:=Tryz.prog) rW.out ?_
 rintro e w4 ⟨v4,s,rfl,hO4,hpm,hso,hg4⟩
 have hns:n=s.length:=by rw[HN.out];exact hpm.length_eq.symm
 have oJ:s≠[]:=by rintro rfl;simp at hns;omega
 have HS:Hid (∀ p∈s,PtOk p):=fun p hp=>HL.out p (hpm.mem_iff.1 hp)
 obtain⟨b4,c4,rfl,hc4⟩:=hO4.form oJ
 rw[← hns] at hO4 hc4 ⊢
 have qj:Hid (n=s.length):=hns
 have uh:Hid (s.Perm l∧q0y s∧s≠[]):=⟨hpm,hso,oJ⟩
 have kD:Hid (POwn w4 w3.heap.size (.slice (some ⟨b4,0,none⟩) n c4) s):=hO4
 have jd:Hid (G w w4):=G.trans nI.out hg4
 have S4:Hid (Rec w4 w.heap.size [.int .i64 0,.int .i64 0]):=Rec.G S3.out hg4
 have xh:Hid _:=q85 w4 _ s hO4.psl (HD.out s hpm) (by omega)
 clear hO4 hpm hso hg4 hns oJ rW S3 nI
 go_wp2_with fail
 refine Calls.mono (P:=Tryz.prog) xh.out ?_
 rintro e w5 ⟨rfl,hg5⟩
 have fF:Hid (POwn w5 w3.heap.size (.slice (some ⟨b4,0,none⟩) n c4) s):=kD.out.G hg5
 have ui:Hid (G w w5):=G.trans jd.out hg5
 have S5:Hid (Rec w5 w.heap.size [.int .i64 0,.int .i64 0]):=Rec.G S4.out hg5
 have hs5:w3.heap.size≤w5.heap.size:=by have:=fF.out.atLeast rfl;omega
 have uG:Hid _:=q5J w5 _ s (HT.out.G ui.out) fF.out.psl HS.out (by have:=qj.out;omega)
 have Bd:decide ((n:Int)<2)=false:=decide_eq_false (by omega)
 clear xh kD jd S4 hg5
 go_wp2_with fail
 refine Calls.mono (P:=Tryz.prog) uG.out ?_
 rintro e w6 ⟨vb,rfl,nD,ve⟩
 have hbl:=q2h (l:=s) (by have:=qj.out;omega)
 obtain⟨b6,c6,rfl,hc6⟩:=ve.form (by intro e;have:=congrArg List.length e;simp at this;rw[this] at hbl;simp at hbl)
 have KT:=fF.out.atLeast rfl
 have KU:=ve.atLeast rfl
 have Et:Hid _:=q4I w6 w3.heap.size _ s (fF.out.G nD) uh.out.2.2 (by have:=qj.out;omega)
 have pJ:Hid (POwn w6 w5.heap.size _ (q0v [] s).reverse):=ve
 have vv:Hid (G w w6):=G.trans ui.out nD
 have S6:Hid (Rec w6 w.heap.size [.int .i64 0,.int .i64 0]):=Rec.G S5.out nD
 clear uG fF ui S5 nD ve
 go_wp2_with fail
 refine Calls.mono (P:=Tryz.prog) Et.out ?_
 rintro e w7 ⟨rfl,z8,hon⟩
 have mG:G w w7:=hon.g w (by omega) vv.out
 have rX:=pJ.out.onto hon (fun g e=>by
  have e:b6=g:=Option.some.inj e
  subst e
  intro e2
  have e2:b4=b6:=Option.some.inj e2
  omega)
 have S7:Hid (Rec w7 w.heap.size [.int .i64 0,.int .i64 0]):=hon.r S6.out (by
  intro e
  have e:b4=w.heap.size:=Option.some.inj e
  omega)
 have aX:Hid _:=q5J w7 _ s.reverse (HT.out.G mG) z8.psl (fun p hp=>HS.out p (List.mem_reverse.1 hp)) (by have:=qj.out;simp;omega)
 have qI:Hid (POwn w7 w5.heap.size _ (q0v [] s).reverse):=rX
 have Eu:Hid (G w w7):=mG
 clear Et pJ vv S6 mG z8 rX hon
 go_wp2_with fail
 refine Calls.mono (P:=Tryz.prog) aX.out ?_
 rintro e w8 ⟨va,rfl,pg,uS⟩
 have hal:=q2h (l:=s.reverse) (by have:=qj.out;simp;omega)
 obtain⟨b8,c8,rfl,hc8⟩:=uS.form (by intro e;have:=congrArg List.length e;simp at this;rw[this] at hal;simp at hal)
 have Ev:Hid (POwn w8 w7.heap.size _ (q0v [] s.reverse).reverse):=uS
 have rY:Hid (POwn w8 w5.heap.size _ (q0v [] s).reverse):=qI.out.G pg
 have Ew:Hid (G w w8):=G.trans Eu.out pg
 have S8:Hid (Rec w8 w.heap.size [.int .i64 0,.int .i64 0]):=Rec.G S7.out pg
 clear aX qI Eu S7 pg uS
 go_wp2_with fail
 have zw:(q0v [] s).length≤60:=by have:=q1U (r:=[]) (l:=s);have:=qj.out;simp at *;omega
 have zx:(q0v [] s.reverse).length≤60:=by have:=q1U (r:=[]) (l:=s.reverse);have:=qj.out;simp at *;omega
 obtain⟨nb,hnb⟩:∃ nb,nb+1=(q0v [] s).length:=⟨(q0v [] s).length-1,by omega⟩
 obtain⟨na,hna⟩:∃ na,na+1=(q0v [] s.reverse).length:=⟨(q0v [] s.reverse).length-1,by omega⟩
 obtain⟨B,hB⟩:∃ B,B=(q0v [] s).reverse.dropLast:=⟨_,rfl⟩
 obtain⟨A,hA⟩:∃ A,A=(q0v [] s.reverse).reverse.dropLast:=⟨_,rfl⟩
 have HF:Hid (B++A=q2r s):=by show B++A=_;rw[hB,hA];rfl
 have zy:Hid (POwn w8 w5.heap.size (.slice (some ⟨b6,0,none⟩) nb c6) B):=by
  have h:=rY.out.cut (k:=nb) (by simp;omega)
  show POwn _ _ _ _
  rw[hB,List.dropLast_eq_take,List.length_reverse,← hnb]
  exact h
 have Ex:Hid (POwn w8 w7.heap.size (.slice (some ⟨b8,0,none⟩) na c8) A):=by
  have h:=Ev.out.cut (k:=na) (by simp;omega)
  show POwn _ _ _ _
  rw[hA,List.dropLast_eq_take,List.length_reverse,← hna]
  exact h
 have Ey:Hid (B.length=nb):=by show _=_;rw[hB];simp;omega
 have zz:Hid (A.length=na):=by show _=_;rw[hA];simp;omega
 rw[List.length_reverse,← hnb] at hc6
 rw[List.length_reverse,← hna] at hc8
 rw[← hnb,← hna]
 rw[← hnb] at zw hbl
 rw[← hna] at zx hal
 clear hnb hna hB hA Ev rY
 have Ez:Hid (∀ W,POwn W w5.heap.size (.slice (some ⟨b6,0,none⟩) nb c6) B→POwn W w7.heap.size (.slice (some ⟨b8,0,none⟩) na c8) A→w5.heap.size≤W.heap.size→_):=fun W h1 h2 h3=>q1f W w5.heap.size _ B A h1 h3 ⟨b8,0,none⟩ na c8 zz.out h2.cells (by rw[Ey.out,zz.out];omega) (by rw[zz.out];omega)
 have zA:w5.heap.size≤w8.heap.size:=by have:=zy.out;rcases this with ⟨e,-⟩|⟨g,cap,cur,e,h1,h2,-⟩;· cases e
                                       ·have:=q1l h2;omega
 have hwb:IntKind.i64.wrap (nb:Int)=(nb:Int):=by rw[IntKind.wrap_i64];omega
 have Dp:IntKind.i64.wrap (na:Int)=(na:Int):=by rw[IntKind.wrap_i64];omega
 have hcb:nb≤c6:=by omega
 have dB:na≤c8:=by omega
 refine wp_region_any (by kernel_rfl) ?_
 refine q05 (i:=0) (v:= ?_) rfl (by kernel_rfl) (by kernel_rfl) (by kernel_rfl) (fun _ _ _ h=>h) (Or.inl ⟨by rfl,?_⟩) ?_
 rotate_left
 ·intro wq;first|(go_simp;done)|(go_simp;with_reducible rfl)
 try simp only[Act.put,List.setIfInBounds_toArray,List.set_cons_zero,List.set_cons_succ]
 refine q05 (i:=1) (v:= ?_) rfl (by kernel_rfl) (by kernel_rfl) (by kernel_rfl) (fun _ _ _ h=>h) (Or.inl ⟨by rfl,?_⟩) ?_
 rotate_left
 ·intro wq;first|(go_simp;done)|(go_simp;with_reducible rfl)
 try simp only[Act.put,List.setIfInBounds_toArray,List.set_cons_zero,List.set_cons_succ]
 refine q05 (i:=2) (v:= ?_) rfl (by kernel_rfl) (by kernel_rfl) (by kernel_rfl) (fun _ _ _ h=>h) (Or.inl ⟨by rfl,?_⟩) ?_
 rotate_left
 ·intro wq;first|(go_simp;done)|(go_simp;with_reducible rfl)
 try simp only[Act.put,List.setIfInBounds_toArray,List.set_cons_zero,List.set_cons_succ]
 refine q05 (i:=3) (v:= ?_) rfl (by kernel_rfl) (by kernel_rfl) (by kernel_rfl) (fun _ _ _ h=>h) (Or.inl ⟨by rfl,?_⟩) ?_
 rotate_left
 ·intro wq;first|(go_simp;done)|(go_simp;with_reducible rfl)
 try simp only[Act.put,List.setIfInBounds_toArray,List.set_cons_zero,List.set_cons_succ]
 refine q05 (i:=4) (v:= ?_) rfl (by kernel_rfl) (by kernel_rfl) (by kernel_rfl) (fun _ _ _ h=>h) (Or.inl ⟨by rfl,?_⟩) ?_
 rotate_left
 ·intro wq;first|(go_simp;done)|(go_simp;with_reducible rfl)
 try simp only[Act.put,List.setIfInBounds_toArray,List.set_cons_zero,List.set_cons_succ]
 refine q05 (i:=5) (v:= ?_) rfl (by kernel_rfl) (by kernel_rfl) (by kernel_rfl) (fun _ _ _ h=>h) (Or.inl ⟨by rfl,?_⟩) ?_
 rotate_left
 ·intro wq;first|(go_simp;done)|(go_simp;with_reducible rfl)
 try simp only[Act.put,List.setIfInBounds_toArray,List.set_cons_zero,List.set_cons_succ]
 refine q05 (i:=6) (v:= ?_) rfl (by kernel_rfl) (by kernel_rfl) (by kernel_rfl) (fun _ _ _ h=>h) (Or.inl ⟨by rfl,?_⟩) ?_
 rotate_left
 ·intro wq;first|(go_simp;done)|(go_simp;with_reducible rfl)
 try simp only[Act.put,List.setIfInBounds_toArray,List.set_cons_zero,List.set_cons_succ]
 refine q05 (i:=7) (v:= ?_) rfl (by kernel_rfl) (by kernel_rfl) (by kernel_rfl) (fun _ _ _ h=>h) (Or.inl ⟨by rfl,?_⟩) ?_
 rotate_left
 ·intro wq;first|(go_simp;done)|(go_simp;with_reducible rfl)
 try simp only[Act.put,List.setIfInBounds_toArray,List.set_cons_zero,List.set_cons_succ]
 refine q05 (i:=8) (v:= ?_) rfl (by kernel_rfl) (by kernel_rfl) (by kernel_rfl) (fun _ _ _ h=>h) (Or.inl ⟨by rfl,?_⟩) ?_
 rotate_left
 ·intro wq;first|(go_simp;done)|(go_simp;with_reducible rfl)
 try simp only[Act.put,List.setIfInBounds_toArray,List.set_cons_zero,List.set_cons_succ]
 refine q05 (i:=9) (v:= ?_) rfl (by kernel_rfl) (by kernel_rfl) (by kernel_rfl) (fun _ _ _ h=>h) (Or.inl ⟨by rfl,?_⟩) ?_
 rotate_left
 ·intro wq;first|(go_simp;done)|(go_simp;with_reducible rfl)
 try simp only[Act.put,List.setIfInBounds_toArray,List.set_cons_zero,List.set_cons_succ]
 refine q05 (i:=11) (v:= ?_) rfl (by kernel_rfl) (by kernel_rfl) (by kernel_rfl) (fun _ _ _ h=>h) (Or.inl ⟨by rfl,?_⟩) ?_
 rotate_left
 ·intro wq;first|(go_simp;done)|(go_simp;with_reducible rfl)
 try simp only[Act.put,List.setIfInBounds_toArray,List.set_cons_zero,List.set_cons_succ]
 show wpAny _ _ _ _ _ _ _ w8.drew
 have hdr:G w8 w8.drew:=(G.refl _).drew
 have EB:Hid (G w w8.drew):=G.trans Ew.out hdr
 have S9:Hid (Rec w8.drew w.heap.size [.int .i64 0,.int .i64 0]):=Rec.G S8.out hdr
 obtain⟨v9,aS,hrun,oK,hon⟩:=Ez.out w8.drew (zy.out.G hdr) (Ex.out.G hdr) zA
 obtain⟨a10,c10,rfl⟩:=oK.len
 have hgw:Hid (G w aS):=hon.g w (by omega) EB.out
 have uP:Hid (Rec aS w.heap.size [.int .i64 0,.int .i64 0]):=hon.r S9.out (by
  intro e
  have e:b6=w.heap.size:=Option.some.inj e
  omega)
 have jB:Hid (POwn aS w5.heap.size (.slice a10 (B++A).length c10) (B++A)):=oK
 clear Ez zy Ex Ew S8 hdr EB S9 oK hon
 generalize w8.drew=w9 at *
 refine wpAny_ready (rs:=[10]) (by kernel_rfl) (by simp) ?_
 refine AllReady.cons rfl (fun K hK=> ?_) AllReady.nil
 refine q1w w9 (.tmp 33) (.tmp 38) 22 rfl _ _ rfl rfl hrun ?_
 refine hK _ _ ?_
 clear hK K hrun
 simp only[Act.put,List.setIfInBounds_toArray]
 have iT:Hid (POwn (World.setCell (World.setCell aS ⟨w.heap.size,0,none⟩ (.int .i64 0)) ⟨w.heap.size,1,none⟩ (.int .i64 0)) w.heap.size (.slice a10 (B++A).length c10) (q2r s)):=by
  have h1:POwn aS (w.heap.size+1) (.slice a10 (B++A).length c10) (q2r s):=by rw[← HF.out];exact jB.out.base (by omega)
  have h2:=h1.oth (w':=World.setCell aS ⟨w.heap.size,0,none⟩ (.int .i64 0)) (b:=w.heap.size) (h1.own (Or.inl (by omega))) (fun k hk=>q0E hk)
  have h3:=h2.oth (w':=World.setCell (World.setCell aS ⟨w.heap.size,0,none⟩ (.int .i64 0)) ⟨w.heap.size,1,none⟩ (.int .i64 0)) (b:=w.heap.size) (h2.own (Or.inl (by omega))) (fun k hk=>q0E hk)
  exact h3.base (Nat.le_succ _)
 clear jB HF
 generalize (B++A).length=nn at *
 refine q05 (i:=12) (v:= ?_) rfl (by kernel_rfl) (by kernel_rfl) (by kernel_rfl) (fun _ _ _ h=>h) (Or.inl ⟨by rfl,?_⟩) ?_
 rotate_left
 ·intro wq;first|(go_simp;done)|(go_simp;with_reducible rfl)
 simp only[Act.put]
 have fU:=Rec.f2 (Rec.G uP.out (G.refl _))
 have vw:=fU.1
 have vB:=fU.2.1
 have vC:=fU.2.2.1
 have vD:=fU.2.2.2
 clear fU
 refine wpAny_ready (rs:=[13]) (by kernel_rfl) (by simp) ?_
 refine AllReady.cons rfl (fun K hK=> ?_) AllReady.nil
 go_simp
 refine hK _ _ ?_
 clear hK K
 refine wpAny_done (by kernel_rfl) ?_ _
 go_wp2_with fail
 have hT:Hid (Rec (World.setCell (World.setCell aS ⟨w.heap.size,0,none⟩ (.int .i64 0)) ⟨w.heap.size,1,none⟩ (.int .i64 0)) (w.heap.size) [.int .i64 0,.int .i64 0]):=Rec.set2 (Rec.G uP.out (G.refl _))
 have g11:=Rec.g2 (b:=w.heap.size) (u:= .int .i64 0) (v:= .int .i64 0) (hgw.out) (by omega)
 generalize (World.setCell (World.setCell aS ⟨w.heap.size,0,none⟩ (.int .i64 0)) ⟨w.heap.size,1,none⟩ (.int .i64 0))=dE at *
 have hF:=Rec.f2 (Rec.G hT.out ((G.refl _)))
 have bR:=hF.1
 have bU:=hF.2.1
 have bV:=hF.2.2.1
 have bW:=hF.2.2.2
 clear hF
 have iG:=Rec.lt hT.out
 refine bodyPost_ret (v:= .tuple #[.slice a10 nn c10,.agg #[.int .i64 0,.int .i64 0]]) (by simp [results,Tryz.results9,go_sem, *]) rfl ?_
 exact⟨_,s,rfl,g11,uh.out.1,uh.out.2.1,iT.out⟩
end Go.Proofs.YtdidnnbpdcanlaaGreatDoor.EN
namespace Go.Proofs.YtdidnnbpdcanlaaGreatDoor.EN
open Go.ChangeShapes Go.WideShapes Go.ChangeAt Go.RowKit
/-- A point in units. -/
def z2 (p:Nat×Nat):Int×Int:=(fz p.1,fz p.2)
theorem q7i (a b p:Nat×Nat):q4R a b p=(Hull.ori (z2 a) (z2 b) (z2 p)).sign:=rfl
theorem q4F (a b p:Nat×Nat):q4R a b p=1↔0<Hull.ori (z2 a) (z2 b) (z2 p):=by
 rw[q7i]
 exact Int.sign_eq_one_iff_pos
theorem q7R (p:Nat×Nat):∀ r:List (Nat×Nat),(popR p r).map z2=Hull.pop (z2 p) (r.map z2)
 |[]=>rfl
 |[_]=>rfl
 |b::a::r=>by
  show List.map z2 (if q4R a b p=1 then b::a::r else popR p (a::r))=if 0<Hull.ori (z2 a) (z2 b) (z2 p) then z2 b::z2 a::r.map z2 else Hull.pop (z2 p) ((a::r).map z2)
  by_cases h:q4R a b p=1
  ·rw[if_pos h,if_pos ((q4F _ _ _).1 h)];rfl
  ·rw[if_neg h,if_neg (fun k=>h ((q4F _ _ _).2 k)),q7R p (a::r)]
theorem q5H:∀ (l r:List (Nat×Nat)),(q0v r l).map z2=Hull.bent (r.map z2) (l.map z2):=by
 intro l
 induction l with
 |nil=>intro r;rfl
 |cons p l ih=>
  intro r
  show (q0v (p::popR p r) l).map z2=Hull.bent (z2 p::Hull.pop (z2 p) (r.map z2)) (l.map z2)
  rw[ih,List.map_cons,q7R]
theorem q5L (s:List (Nat×Nat)):(q2r s).map z2=Hull.hull (s.map z2):=by
 unfold q2r Hull.hull
 rw[List.map_append,List.map_dropLast,List.map_dropLast,List.map_reverse,List.map_reverse,q5H,q5H,List.map_reverse]
 rfl
theorem q6V (p q:Nat×Nat):ordZ p q<0↔Hull.lt (z2 p) (z2 q):=by
 unfold ordZ Hull.lt z2 cmpZ
 simp only
 grind
/-- Points in their order, of which no two are the same. -/
theorem q4v {s:List (Nat×Nat)} (h:q0y s) (hd:(s.map z2).Nodup):(s.map z2).Pairwise Hull.lt:=by
 rw[List.pairwise_iff_getElem]
 intro i j hi hj hij
 rw[List.length_map] at hi hj
 have h1:=h i j hij hj
 rw[List.getD_eq_getElem?_getD,List.getD_eq_getElem?_getD,List.getElem?_eq_getElem hj,List.getElem?_eq_getElem hi] at h1
 simp only[Option.getD_some] at h1
 rw[q6V] at h1
 rw[List.getElem_map,List.getElem_map]
 rcases Hull.le_of_not h1 with k|k
 ·exact k
 ·have h2:=(List.getElem_inj (h₀:=by simpa using hi) (h₁:=by simpa using hj) hd).1 (by rw[List.getElem_map,List.getElem_map];exact k)
  omega
end Go.Proofs.YtdidnnbpdcanlaaGreatDoor.EN
