/- What is proved here: package geom's Hull of any finite points, over this seat's translation.
What is proved here: Hull's corners, in units, as those of the other's way, over this seat's translation.
What is proved here: the other's points, each but once and in their order, are Hull's, over this seat's translation. -/
import Derived.Test.YtdidnnbpdcanlaaGreatDoorC37
import Derived.Test.YtdidnnbpdcanlaaGreatDoorC36
namespace Go.Proofs.YtdidnnbpdcanlaaGreatDoor.EN
open Go.ChangeShapes Go.WideShapes Go.ChangeAt Go.RowKit
attribute [local go_sem] q0d
theorem q5K {l:List (Nat×Nat)}:∀ p∈q0u l l.length,p∈l:=by
 have h:∀ k,k≤l.length→∀ p∈q0u l k,p∈l:=by
  intro k
  induction k with
  |zero=>intro _ p hp;cases hp
  |succ k ih=>
   intro hk p hp
   have hp:p∈(if k≠0∧q1h (l.getD k (0,0)) (l.getD (k-1) (0,0))=true then q0u l k else q0u l k++[l.getD k (0,0)]):=hp
   split at hp
   ·exact ih (by omega) p hp
   ·rcases List.mem_append.1 hp with hp|hp
    ·exact ih (by omega) p hp
    ·rw[List.mem_singleton.1 hp,List.getD_eq_getElem?_getD,List.getElem?_eq_getElem (by omega)]
     exact List.getElem_mem _
 exact h _ (Nat.le_refl _)
theorem q5O (l:List (Nat×Nat)):∀ k,(q0u l k).length≤k:=by
 intro k
 induction k with
 |zero=>exact Nat.le_refl _
 |succ k ih=>
  show (if _ then _ else _:List (Nat×Nat)).length≤_
  split
  ·omega
  ·rw[List.length_append,List.length_singleton];omega
theorem q7y {l:List (Nat×Nat)} (h:l≠[]):q0u l l.length≠[]:=by
 have hk:∀ k,q0u l (k+1)≠[]:=by
  intro k
  induction k with
  |zero=>
   show (if _ then _ else _:List (Nat×Nat))≠[]
   rw[if_neg (fun h=>h.1 rfl)]
   simp
  |succ k ih=>
   show (if _ then _ else _:List (Nat×Nat))≠[]
   split
   ·exact ih
   ·simp
 have:=List.length_pos_iff.2 h
 obtain⟨k,e⟩:∃ k,l.length=k+1:=⟨l.length-1,by omega⟩
 rw[e]
 exact hk k
/-- The corners of points in their order. -/
def q0U (s:List (Nat×Nat)):List (Nat×Nat):=if (q0u s s.length).length<2 then q0u s s.length else q2r (q0u s s.length)
def q6K (w:World) (l:List (Nat×Nat)) (e:Ending) (w':World):Prop:=∃ v s,e= .returned (.tuple #[v,.agg #[.int .i64 0,.int .i64 0]])∧G w w'∧s.Perm l∧q0y s∧POwn w' w.heap.size v (q0U s)
set_option maxRecDepth 20000 in
set_option maxHeartbeats 2000000 in
theorem q9b (w:World) (v:Value) (l:List (Nat×Nat)) (hT:Tab w) (h:PSl w v l) (hl:∀ p∈l,PtOk p) (h2:1≤l.length) (hn:l.length≤60):Calls Tryz.prog 9 #[v] w (q6K w l):=by
 obtain⟨pa,ca,rfl,dB,hrow⟩:=id h
 have HT:Hid (Tab w):=hT
 have HP:Hid (PSl w (.slice pa l.length ca) l):=h
 have HL:Hid (∀ p∈l,PtOk p):=hl
 have HU:Hid (∀ w1,G w w1→_):=fun w1 g=>q2x w1 _ l (h.G g) (fun i hi=>by
  have:=hl _ (List.getElem_mem hi)
  rw[List.getD_eq_getElem?_getD,List.getElem?_eq_getElem hi]
  exact⟨this.1,this.2.1⟩) hn
 have HFin:Hid (∀ i,i<l.length→FinP (l.getD i (0,0))):=fun i hi=>by
  rw[List.getD_eq_getElem?_getD,List.getElem?_eq_getElem hi]
  exact(hl _ (List.getElem_mem hi)).2.2
 clear hT h hl dB hrow
 obtain⟨n,hn'⟩:∃ n,n=l.length:=⟨_,rfl⟩
 rw[← hn'] at HU HP hn h2 ⊢
 have HN:Hid (n=l.length):=hn'
 clear hn'
 go_enter Tryz.func9,Tryz.ntmps9
 go_wp2_with fail
 obtain⟨w0,aL,g0,hz0,R0⟩:=q0B w [.int .i64 0,.int .i64 0] 26
 rw[aL]
 clear aL
 refine Calls.mono (P:=Tryz.prog) (HU.out _ g0) ?_
 intro e1 w1 hs
 obtain⟨c,a,rfl,g1,hv⟩:=hs
 obtain⟨rfl,rfl⟩:c=0∧a=0:=by
  rcases hv with ⟨h1,h2,-⟩|⟨i,-,-,h3,h4,-⟩
  ·exact⟨h1,h2⟩
  ·exact absurd (HFin.out i h3) h4
 clear hv HFin HU
 have S0:Hid (Rec _ _ _):=Rec.G R0.out (g1)
 have mI:=G.trans g0 g1
 clear R0 g0 hz0 g1
 go_wp2_with fail
 refine Calls.mono (P:=Tryz.prog) (q3U _ pa n ca) ?_
 rintro e w3 ⟨rfl,hw3⟩
 have hg3:G w w3:=by rw[hw3];exact(mI.alloc _).alloc _
 have hs3:w1.heap.size+2≤w3.heap.size:=by rw[hw3];simp
 have hB3:w3.cell? ⟨w1.heap.size+1,0,none⟩=some (.slice pa n ca):=by
  have h:=(Rec.new1 (w1.alloc (.cells #[.int .i64 0,.int .i64 0] 26)) (.slice pa n ca) 22).cell 0
  rw[World.size_alloc] at h
  rw[hw3];exact h
 have S3:Hid (Rec w3 w.heap.size [.int .i64 0,.int .i64 0]):=by
  show Rec _ _ _
  rw[hw3]
  exact Rec.G S0.out (((G.refl w1).alloc _).alloc _)
 have hbs:w.heap.size<w1.heap.size:=S0.out.lt
 rw[World.size_alloc]
 have Es:=q2H (w1.heap.size+1) (.slice pa n ca) l (by have:=HN.out;omega) (by rintro rfl;have:=HN.out;simp at this;omega) (fun p hp=>(HL.out p hp).2.2) w3 w.heap.size (by omega) hg3.size hB3 (PSlB.below HP.out hg3)
 have rW:Hid _:=Es
 have nI:Hid (G w w3):=hg3
 clear Es hg3 hB3 hw3 S0 mI
 go_wp2_with fail
 refine Calls.mono (P:=Tryz.prog) rW.out ?_
 rintro e w4 ⟨v4,s,rfl,hO4,hpm,hso,hg4⟩
 have hns:n=s.length:=by rw[HN.out];exact hpm.length_eq.symm
 have oJ:s≠[]:=by rintro rfl;simp at hns;omega
 have HS:Hid (∀ p∈s,PtOk p):=fun p hp=>HL.out p (hpm.mem_iff.1 hp)
 obtain⟨b4,c4,rfl,hc4⟩:=hO4.form oJ
 rw[← hns] at hO4 hc4 ⊢
 have qj:Hid (n=s.length):=hns
 have uh:Hid (s.Perm l∧q0y s∧s≠[]):=⟨hpm,hso,oJ⟩
 have kD:Hid (POwn w4 w3.heap.size (.slice (some ⟨b4,0,none⟩) n c4) s):=hO4
 have jd:Hid (G w w4):=G.trans nI.out hg4
 have S4:Hid (Rec w4 w.heap.size [.int .i64 0,.int .i64 0]):=Rec.G S3.out hg4
 have xh:Hid _:=q3j w4 w3.heap.size _ s hO4 (by omega)
 clear hO4 hpm hso hg4 hns oJ rW S3 nI
 go_wp2_with fail
 refine Calls.mono (P:=Tryz.prog) xh.out ?_
 rintro e w5 ⟨v5,rfl,ic,oO,vF⟩
 obtain⟨b5,c5,rfl,qC⟩:=ic.form (q7y uh.out.2.2)
 obtain rfl:b5=b4:=Option.some.inj (show some b5=some b4 from vF)
 have Tc:w3.heap.size≤b5∧b5<w4.heap.size:=kD.out.atLeast rfl
 have HS:Hid (∀ p∈q0u s s.length,PtOk p):=fun p hp=>HS.out p (q5K p hp)
 have EH:(q0u s s.length).length≤60:=by have:=q5O s s.length;have:=qj.out;omega
 have HE:Hid (q0u s s.length≠[]):=q7y uh.out.2.2
 obtain⟨s2,es2⟩:∃ s2,s2=q0u s s.length:=⟨_,rfl⟩
 have O3:Hid (s2=q0u s s.length):=es2
 rw[← es2] at ic qC HS EH HE ⊢
 clear es2
 obtain⟨n2,hn2⟩:∃ n2,n2=s2.length:=⟨_,rfl⟩
 rw[← hn2] at ic qC EH ⊢
 have mo:Hid (n2=s2.length):=hn2
 clear hn2 vF
 have fF:Hid (POwn w5 w3.heap.size (.slice (some ⟨b5,0,none⟩) n2 c5) s2):=ic
 have hg5:G w w5:=oO.g w (by omega) jd.out
 have ui:Hid (G w w5):=hg5
 have S5:Hid (Rec w5 w.heap.size [.int .i64 0,.int .i64 0]):=oO.r S4.out (by
  intro e
  have e:b5=w.heap.size:=Option.some.inj e
  omega)
 have hs5:w3.heap.size≤w5.heap.size:=by have:=fF.out.atLeast rfl;omega
 clear hg5 oO ic xh kD jd S4
 by_cases Td:n2<2
 ·have Bd:decide ((n2:Int)<2)=true:=decide_eq_true (by omega)
  have iT:Hid (POwn (World.setCell (World.setCell w5 ⟨w.heap.size,0,none⟩ (.int .i64 0)) ⟨w.heap.size,1,none⟩ (.int .i64 0)) w.heap.size (.slice (some ⟨b5,0,none⟩) n2 c5) s2):=by
   have h1:POwn w5 (w.heap.size+1) (.slice (some ⟨b5,0,none⟩) n2 c5) s2:=fF.out.base (by omega)
   have h2:=h1.oth (w':=World.setCell w5 ⟨w.heap.size,0,none⟩ (.int .i64 0)) (b:=w.heap.size) (h1.own (Or.inl (by omega))) (fun k hk=>q0E hk)
   have h3:=h2.oth (w':=World.setCell (World.setCell w5 ⟨w.heap.size,0,none⟩ (.int .i64 0)) ⟨w.heap.size,1,none⟩ (.int .i64 0)) (b:=w.heap.size) (h2.own (Or.inl (by omega))) (fun k hk=>q0E hk)
   exact h3.base (Nat.le_succ _)
  have ku:=Rec.f2 (Rec.G S5.out (G.refl _))
  have zW:=ku.1
  have zX:=ku.2.1
  have zY:=ku.2.2.1
  have zZ:=ku.2.2.2
  clear ku
  go_wp2_with fail
  have hT:Hid (Rec (World.setCell (World.setCell w5 ⟨w.heap.size,0,none⟩ (.int .i64 0)) ⟨w.heap.size,1,none⟩ (.int .i64 0)) (w.heap.size) [.int .i64 0,.int .i64 0]):=Rec.set2 (Rec.G S5.out (G.refl _))
  have g11:=Rec.g2 (b:=w.heap.size) (u:= .int .i64 0) (v:= .int .i64 0) (ui.out) (by omega)
  generalize (World.setCell (World.setCell w5 ⟨w.heap.size,0,none⟩ (.int .i64 0)) ⟨w.heap.size,1,none⟩ (.int .i64 0))=dE at *
  have hF:=Rec.f2 (Rec.G hT.out ((G.refl _)))
  have bR:=hF.1
  have bU:=hF.2.1
  have bV:=hF.2.2.1
  have bW:=hF.2.2.2
  clear hF
  have iG:=Rec.lt hT.out
  refine bodyPost_ret (v:= .tuple #[.slice (some ⟨b5,0,none⟩) n2 c5,.agg #[.int .i64 0,.int .i64 0]]) (by simp [results,Tryz.results9,go_sem, *]) rfl ?_
  exact⟨_,s,rfl,g11,uh.out.1,uh.out.2.1,by unfold q0U;rw[← O3.out,if_pos (by have:=mo.out;omega)];exact iT.out⟩
 have Bd:decide ((n2:Int)<2)=false:=decide_eq_false (by omega)
 have uG:Hid _:=q5J w5 _ s2 (HT.out.G ui.out) fF.out.psl HS.out (by have:=mo.out;omega)
 go_wp2_with fail
 refine Calls.mono (P:=Tryz.prog) uG.out ?_
 rintro e w6 ⟨vb,rfl,nD,ve⟩
 have hbl:=q2h (l:=s2) (by have:=mo.out;omega)
 obtain⟨b6,c6,rfl,hc6⟩:=ve.form (by intro e;have:=congrArg List.length e;simp at this;rw[this] at hbl;simp at hbl)
 have KT:=fF.out.atLeast rfl
 have KU:=ve.atLeast rfl
 have Et:Hid _:=q4I w6 w3.heap.size _ s2 (fF.out.G nD) HE.out (by have:=mo.out;omega)
 have pJ:Hid (POwn w6 w5.heap.size _ (q0v [] s2).reverse):=ve
 have vv:Hid (G w w6):=G.trans ui.out nD
 have S6:Hid (Rec w6 w.heap.size [.int .i64 0,.int .i64 0]):=Rec.G S5.out nD
 clear uG fF ui S5 nD ve
 go_wp2_with fail
 refine Calls.mono (P:=Tryz.prog) Et.out ?_
 rintro e w7 ⟨rfl,z8,hon⟩
 have mG:G w w7:=hon.g w (by omega) vv.out
 have rX:=pJ.out.onto hon (fun g e=>by
  have e:b6=g:=Option.some.inj e
  subst e
  intro e2
  have e2:b5=b6:=Option.some.inj e2
  omega)
 have S7:Hid (Rec w7 w.heap.size [.int .i64 0,.int .i64 0]):=hon.r S6.out (by
  intro e
  have e:b5=w.heap.size:=Option.some.inj e
  omega)
 have aX:Hid _:=q5J w7 _ s2.reverse (HT.out.G mG) z8.psl (fun p hp=>HS.out p (List.mem_reverse.1 hp)) (by have:=mo.out;simp;omega)
 have qI:Hid (POwn w7 w5.heap.size _ (q0v [] s2).reverse):=rX
 have Eu:Hid (G w w7):=mG
 clear Et pJ vv S6 mG z8 rX hon
 go_wp2_with fail
 refine Calls.mono (P:=Tryz.prog) aX.out ?_
 rintro e w8 ⟨va,rfl,pg,uS⟩
 have hal:=q2h (l:=s2.reverse) (by have:=mo.out;simp;omega)
 obtain⟨b8,c8,rfl,hc8⟩:=uS.form (by intro e;have:=congrArg List.length e;simp at this;rw[this] at hal;simp at hal)
 have Ev:Hid (POwn w8 w7.heap.size _ (q0v [] s2.reverse).reverse):=uS
 have rY:Hid (POwn w8 w5.heap.size _ (q0v [] s2).reverse):=qI.out.G pg
 have Ew:Hid (G w w8):=G.trans Eu.out pg
 have S8:Hid (Rec w8 w.heap.size [.int .i64 0,.int .i64 0]):=Rec.G S7.out pg
 clear aX qI Eu S7 pg uS
 go_wp2_with fail
 have zw:(q0v [] s2).length≤60:=by have:=q1U (r:=[]) (l:=s2);have:=mo.out;simp at *;omega
 have zx:(q0v [] s2.reverse).length≤60:=by have:=q1U (r:=[]) (l:=s2.reverse);have:=mo.out;simp at *;omega
 obtain⟨nb,hnb⟩:∃ nb,nb+1=(q0v [] s2).length:=⟨(q0v [] s2).length-1,by omega⟩
 obtain⟨na,hna⟩:∃ na,na+1=(q0v [] s2.reverse).length:=⟨(q0v [] s2.reverse).length-1,by omega⟩
 obtain⟨B,hB⟩:∃ B,B=(q0v [] s2).reverse.dropLast:=⟨_,rfl⟩
 obtain⟨A,hA⟩:∃ A,A=(q0v [] s2.reverse).reverse.dropLast:=⟨_,rfl⟩
 have HF:Hid (B++A=q2r s2):=by show B++A=_;rw[hB,hA];rfl
 have zy:Hid (POwn w8 w5.heap.size (.slice (some ⟨b6,0,none⟩) nb c6) B):=by
  have h:=rY.out.cut (k:=nb) (by simp;omega)
  show POwn _ _ _ _
  rw[hB,List.dropLast_eq_take,List.length_reverse,← hnb]
  exact h
 have Ex:Hid (POwn w8 w7.heap.size (.slice (some ⟨b8,0,none⟩) na c8) A):=by
  have h:=Ev.out.cut (k:=na) (by simp;omega)
  show POwn _ _ _ _
  rw[hA,List.dropLast_eq_take,List.length_reverse,← hna]
  exact h
 have Ey:Hid (B.length=nb):=by show _=_;rw[hB];simp;omega
 have zz:Hid (A.length=na):=by show _=_;rw[hA];simp;omega
 rw[List.length_reverse,← hnb] at hc6
 rw[List.length_reverse,← hna] at hc8
 rw[← hnb,← hna]
 rw[← hnb] at zw hbl
 rw[← hna] at zx hal
 clear hnb hna hB hA Ev rY
 have Ez:Hid (∀ W,POwn W w5.heap.size (.slice (some ⟨b6,0,none⟩) nb c6) B→POwn W w7.heap.size (.slice (some ⟨b8,0,none⟩) na c8) A→w5.heap.size≤W.heap.size→_):=fun W h1 h2 h3=>q1f W w5.heap.size _ B A h1 h3 ⟨b8,0,none⟩ na c8 zz.out h2.cells (by rw[Ey.out,zz.out];omega) (by rw[zz.out];omega)
 have zA:w5.heap.size≤w8.heap.size:=by have:=zy.out;rcases this with ⟨e,-⟩|⟨g,cap,cur,e,h1,h2,-⟩;· cases e
                                       ·have:=q1l h2;omega
 have hwb:IntKind.i64.wrap (nb:Int)=(nb:Int):=by rw[IntKind.wrap_i64];omega
 have Dp:IntKind.i64.wrap (na:Int)=(na:Int):=by rw[IntKind.wrap_i64];omega
 have hcb:nb≤c6:=by omega
 have dB:na≤c8:=by omega
 refine wp_region_any (by kernel_rfl) ?_
 refine q05 (i:=0) (v:= ?_) rfl (by kernel_rfl) (by kernel_rfl) (by kernel_rfl) (fun _ _ _ h=>h) (Or.inl ⟨by rfl,?_⟩) ?_
 rotate_left
 ·intro wq;first|(go_simp;done)|(go_simp;with_reducible rfl)
 try simp only[Act.put,List.setIfInBounds_toArray,List.set_cons_zero,List.set_cons_succ]
 refine q05 (i:=1) (v:= ?_) rfl (by kernel_rfl) (by kernel_rfl) (by kernel_rfl) (fun _ _ _ h=>h) (Or.inl ⟨by rfl,?_⟩) ?_
 rotate_left
 ·intro wq;first|(go_simp;done)|(go_simp;with_reducible rfl)
 try simp only[Act.put,List.setIfInBounds_toArray,List.set_cons_zero,List.set_cons_succ]
 refine q05 (i:=2) (v:= ?_) rfl (by kernel_rfl) (by kernel_rfl) (by kernel_rfl) (fun _ _ _ h=>h) (Or.inl ⟨by rfl,?_⟩) ?_
 rotate_left
 ·intro wq;first|(go_simp;done)|(go_simp;with_reducible rfl)
 try simp only[Act.put,List.setIfInBounds_toArray,List.set_cons_zero,List.set_cons_succ]
 refine q05 (i:=3) (v:= ?_) rfl (by kernel_rfl) (by kernel_rfl) (by kernel_rfl) (fun _ _ _ h=>h) (Or.inl ⟨by rfl,?_⟩) ?_
 rotate_left
 ·intro wq;first|(go_simp;done)|(go_simp;with_reducible rfl)
 try simp only[Act.put,List.setIfInBounds_toArray,List.set_cons_zero,List.set_cons_succ]
 refine q05 (i:=4) (v:= ?_) rfl (by kernel_rfl) (by kernel_rfl) (by kernel_rfl) (fun _ _ _ h=>h) (Or.inl ⟨by rfl,?_⟩) ?_
 rotate_left
 ·intro wq;first|(go_simp;done)|(go_simp;with_reducible rfl)
 try simp only[Act.put,List.setIfInBounds_toArray,List.set_cons_zero,List.set_cons_succ]
 refine q05 (i:=5) (v:= ?_) rfl (by kernel_rfl) (by kernel_rfl) (by kernel_rfl) (fun _ _ _ h=>h) (Or.inl ⟨by rfl,?_⟩) ?_
 rotate_left
 ·intro wq;first|(go_simp;done)|(go_simp;with_reducible rfl)
 try simp only[Act.put,List.setIfInBounds_toArray,List.set_cons_zero,List.set_cons_succ]
 refine q05 (i:=6) (v:= ?_) rfl (by kernel_rfl) (by kernel_rfl) (by kernel_rfl) (fun _ _ _ h=>h) (Or.inl ⟨by rfl,?_⟩) ?_
 rotate_left
 ·intro wq;first|(go_simp;done)|(go_simp;with_reducible rfl)
 try simp only[Act.put,List.setIfInBounds_toArray,List.set_cons_zero,List.set_cons_succ]
 refine q05 (i:=7) (v:= ?_) rfl (by kernel_rfl) (by kernel_rfl) (by kernel_rfl) (fun _ _ _ h=>h) (Or.inl ⟨by rfl,?_⟩) ?_
 rotate_left
 ·intro wq;first|(go_simp;done)|(go_simp;with_reducible rfl)
 try simp only[Act.put,List.setIfInBounds_toArray,List.set_cons_zero,List.set_cons_succ]
 refine q05 (i:=8) (v:= ?_) rfl (by kernel_rfl) (by kernel_rfl) (by kernel_rfl) (fun _ _ _ h=>h) (Or.inl ⟨by rfl,?_⟩) ?_
 rotate_left
 ·intro wq;first|(go_simp;done)|(go_simp;with_reducible rfl)
 try simp only[Act.put,List.setIfInBounds_toArray,List.set_cons_zero,List.set_cons_succ]
 refine q05 (i:=9) (v:= ?_) rfl (by kernel_rfl) (by kernel_rfl) (by kernel_rfl) (fun _ _ _ h=>h) (Or.inl ⟨by rfl,?_⟩) ?_
 rotate_left
 ·intro wq;first|(go_simp;done)|(go_simp;with_reducible rfl)
 try simp only[Act.put,List.setIfInBounds_toArray,List.set_cons_zero,List.set_cons_succ]
 refine q05 (i:=11) (v:= ?_) rfl (by kernel_rfl) (by kernel_rfl) (by kernel_rfl) (fun _ _ _ h=>h) (Or.inl ⟨by rfl,?_⟩) ?_
 rotate_left
 ·intro wq;first|(go_simp;done)|(go_simp;with_reducible rfl)
 try simp only[Act.put,List.setIfInBounds_toArray,List.set_cons_zero,List.set_cons_succ]
 show wpAny _ _ _ _ _ _ _ w8.drew
 have hdr:G w8 w8.drew:=(G.refl _).drew
 have EB:Hid (G w w8.drew):=G.trans Ew.out hdr
 have S9:Hid (Rec w8.drew w.heap.size [.int .i64 0,.int .i64 0]):=Rec.G S8.out hdr
 obtain⟨v9,aS,hrun,oK,hon⟩:=Ez.out w8.drew (zy.out.G hdr) (Ex.out.G hdr) zA
 obtain⟨a10,c10,rfl⟩:=oK.len
 have hgw:Hid (G w aS):=hon.g w (by omega) EB.out
 have uP:Hid (Rec aS w.heap.size [.int .i64 0,.int .i64 0]):=hon.r S9.out (by
  intro e
  have e:b6=w.heap.size:=Option.some.inj e
  omega)
 have jB:Hid (POwn aS w5.heap.size (.slice a10 (B++A).length c10) (B++A)):=oK
 clear Ez zy Ex Ew S8 hdr EB S9 oK hon
 generalize w8.drew=w9 at *
 refine wpAny_ready (rs:=[10]) (by kernel_rfl) (by simp) ?_
 refine AllReady.cons rfl (fun K hK=> ?_) AllReady.nil
 refine q1w w9 (.tmp 33) (.tmp 38) 22 rfl _ _ rfl rfl hrun ?_
 refine hK _ _ ?_
 clear hK K hrun
 simp only[Act.put,List.setIfInBounds_toArray]
 have iT:Hid (POwn (World.setCell (World.setCell aS ⟨w.heap.size,0,none⟩ (.int .i64 0)) ⟨w.heap.size,1,none⟩ (.int .i64 0)) w.heap.size (.slice a10 (B++A).length c10) (q2r s2)):=by
  have h1:POwn aS (w.heap.size+1) (.slice a10 (B++A).length c10) (q2r s2):=by rw[← HF.out];exact jB.out.base (by omega)
  have h2:=h1.oth (w':=World.setCell aS ⟨w.heap.size,0,none⟩ (.int .i64 0)) (b:=w.heap.size) (h1.own (Or.inl (by omega))) (fun k hk=>q0E hk)
  have h3:=h2.oth (w':=World.setCell (World.setCell aS ⟨w.heap.size,0,none⟩ (.int .i64 0)) ⟨w.heap.size,1,none⟩ (.int .i64 0)) (b:=w.heap.size) (h2.own (Or.inl (by omega))) (fun k hk=>q0E hk)
  exact h3.base (Nat.le_succ _)
 clear jB HF
 generalize (B++A).length=nn at *
 refine q05 (i:=12) (v:= ?_) rfl (by kernel_rfl) (by kernel_rfl) (by kernel_rfl) (fun _ _ _ h=>h) (Or.inl ⟨by rfl,?_⟩) ?_
 rotate_left
 ·intro wq;first|(go_simp;done)|(go_simp;with_reducible rfl)
 simp only[Act.put]
 have fU:=Rec.f2 (Rec.G uP.out (G.refl _))
 have vw:=fU.1
 have vB:=fU.2.1
 have vC:=fU.2.2.1
 have vD:=fU.2.2.2
 clear fU
 refine wpAny_ready (rs:=[13]) (by kernel_rfl) (by simp) ?_
 refine AllReady.cons rfl (fun K hK=> ?_) AllReady.nil
 go_simp
 refine hK _ _ ?_
 clear hK K
 refine wpAny_done (by kernel_rfl) ?_ _
 go_wp2_with fail
 have hT:Hid (Rec (World.setCell (World.setCell aS ⟨w.heap.size,0,none⟩ (.int .i64 0)) ⟨w.heap.size,1,none⟩ (.int .i64 0)) (w.heap.size) [.int .i64 0,.int .i64 0]):=Rec.set2 (Rec.G uP.out (G.refl _))
 have g11:=Rec.g2 (b:=w.heap.size) (u:= .int .i64 0) (v:= .int .i64 0) (hgw.out) (by omega)
 generalize (World.setCell (World.setCell aS ⟨w.heap.size,0,none⟩ (.int .i64 0)) ⟨w.heap.size,1,none⟩ (.int .i64 0))=dE at *
 have hF:=Rec.f2 (Rec.G hT.out ((G.refl _)))
 have bR:=hF.1
 have bU:=hF.2.1
 have bV:=hF.2.2.1
 have bW:=hF.2.2.2
 clear hF
 have iG:=Rec.lt hT.out
 refine bodyPost_ret (v:= .tuple #[.slice a10 nn c10,.agg #[.int .i64 0,.int .i64 0]]) (by simp [results,Tryz.results9,go_sem, *]) rfl ?_
 exact⟨_,s,rfl,g11,uh.out.1,uh.out.2.1,by unfold q0U;rw[← O3.out,if_neg (by have:=mo.out;omega)];exact iT.out⟩
end Go.Proofs.YtdidnnbpdcanlaaGreatDoor.EN
namespace Go.Proofs.YtdidnnbpdcanlaaGreatDoor.EN
open Go.ChangeShapes Go.WideShapes Go.ChangeAt Go.RowKit
theorem q1G {p q:Nat×Nat} (hp:FinP p) (hq:FinP q):q1h p q=true↔z2 p=z2 q:=by
 unfold q1h z2
 rw[q37 hp.1 hq.1,q37 hp.2 hq.2,Bool.and_eq_true,Prod.mk.injEq]
 have h:∀ a b:Int,(some (compare a b)==some Ordering.eq)=true↔a=b:=by
  intro a b
  rw[beq_iff_eq,Option.some.injEq]
  exact Int.compare_eq_eq
 rw[h,h]
theorem q3m {s:List (Nat×Nat)} (h:q0y s) {i j:Nat} (hij:i≤j) (hj:j<s.length):Hull.le (z2 (s.getD i (0,0))) (z2 (s.getD j (0,0))):=by
 rcases Nat.lt_or_eq_of_le hij with k|k
 ·have h1:=h i j k hj
  rw[q6V] at h1
  exact Hull.le_of_not h1
 ·rw[k];exact Or.inr rfl
theorem q5G {s:List (Nat×Nat)} {k:Nat} (hk:k≤s.length) {p:Nat×Nat}:p∈s.take k↔∃ i,i<k∧s.getD i (0,0)=p:=by
 constructor
 ·intro h
  obtain⟨i,hi,e⟩:=List.mem_iff_getElem.1 h
  rw[List.length_take] at hi
  refine⟨i,by omega,?_⟩
  rw[List.getElem_take] at e
  rw[List.getD_eq_getElem?_getD,List.getElem?_eq_getElem (by omega)]
  exact e
 ·rintro⟨i,hi,e⟩
  rw[List.getD_eq_getElem?_getD,List.getElem?_eq_getElem (by omega)] at e
  rw[← e,Option.getD_some]
  exact List.mem_iff_getElem.2 ⟨i,by rw[List.length_take];omega,by rw[List.getElem_take]⟩
theorem q89 (s:List (Nat×Nat)):∀ k,k≤s.length→∀ p∈q0u s k,p∈s.take k:=by
 intro k
 induction k with
 |zero=>intro _ p hp;cases hp
 |succ k ih=>
  intro hk p hp
  have hp:p∈(if k≠0∧q1h (s.getD k (0,0)) (s.getD (k-1) (0,0))=true then q0u s k else q0u s k++[s.getD k (0,0)]):=hp
  rw[q0W (by omega)]
  split at hp
  ·exact List.mem_append_left _ (ih (by omega) p hp)
  ·rcases List.mem_append.1 hp with hp|hp
   ·exact List.mem_append_left _ (ih (by omega) p hp)
   ·exact List.mem_append_right _ hp
theorem q5p {s:List (Nat×Nat)} (hs:q0y s) (hf:∀ p∈s,FinP p):∀ k,k≤s.length→((q0u s k).map z2).Pairwise Hull.lt∧∀ z,z∈(q0u s k).map z2↔z∈(s.take k).map z2:=by
 have hfi:∀ i,i<s.length→FinP (s.getD i (0,0)):=fun i hi=>by
  rw[List.getD_eq_getElem?_getD,List.getElem?_eq_getElem hi]
  exact hf _ (List.getElem_mem hi)
 intro k
 induction k with
 |zero=>intro _;exact⟨List.Pairwise.nil,fun z=>by rw[List.take_zero];exact Iff.rfl⟩
 |succ k ih=>
  intro hk
  obtain⟨h1,h2⟩:=ih (by omega)
  by_cases hsm:k≠0∧q1h (s.getD k (0,0)) (s.getD (k-1) (0,0))=true
  ·have e:q0u s (k+1)=q0u s k:=by
    show (if _ then _ else _)=_
    rw[if_pos hsm]
   have ez:=(q1G (hfi k (by omega)) (hfi (k-1) (by omega))).1 hsm.2
   refine⟨by rw[e];exact h1,fun z=> ?_⟩
   rw[e,h2 z,q0W (by omega),List.map_append,List.mem_append]
   refine⟨Or.inl,fun h=> ?_⟩
   rcases h with h|h
   ·exact h
   ·rw[List.map_singleton,List.mem_singleton] at h
    rw[h,ez]
    exact List.mem_map_of_mem ((q5G (by omega)).2 ⟨k-1,by omega,rfl⟩)
  ·have e:q0u s (k+1)=q0u s k++[s.getD k (0,0)]:=by
    show (if _ then _ else _)=_
    rw[if_neg hsm]
   refine⟨?_,fun z=> ?_⟩
   ·rw[e,List.map_append,List.pairwise_append]
    refine⟨h1,by simp,fun a ha b hb=> ?_⟩
    rw[List.map_singleton,List.mem_singleton] at hb
    subst hb
    obtain⟨p,hp,rfl⟩:=List.mem_map.1 ha
    obtain⟨i,hi,rfl⟩:=(q5G (by omega)).1 (q89 s k (by omega) p hp)
    rcases q3m hs (show i≤k by omega) (by omega) with k1|k1
    ·exact k1
    ·exfalso
     apply hsm
     have k0:k≠0:=by omega
     refine⟨k0,(q1G (hfi k (by omega)) (hfi (k-1) (by omega))).2 ?_⟩
     have l1:=q3m hs (show i≤k-1 by omega) (by omega)
     have l2:=q3m hs (show k-1≤k by omega) (by omega)
     rw[k1] at l1
     exact(Hull.le_antisymm l2 l1).symm
   ·rw[e,List.map_append,List.mem_append,h2 z,q0W (by omega),List.map_append,List.mem_append]
/-- The points in units, in their order, each but once, are told by which they are. -/
theorem q9n {s:List (Nat×Nat)} (hs:q0y s) (hf:∀ p∈s,FinP p):((q0u s s.length).map z2).Pairwise Hull.lt∧∀ z,z∈(q0u s s.length).map z2↔z∈s.map z2:=by
 have h:=q5p hs hf s.length (Nat.le_refl _)
 rw[List.take_length] at h
 exact h
/-- One more point, where it isn't known. -/
def addK (s:List (Nat×Nat)) (p:Nat×Nat):List (Nat×Nat):=if s.any (fun q=>q1h p q)=true then s else s++[p]
theorem qaM {s:List (Nat×Nat)} {p:Nat×Nat} (hs:∀ q∈s,FinP q) (hp:FinP p) (hn:(s.map z2).Nodup):
  ((addK s p).map z2).Nodup∧(∀ z,z∈(addK s p).map z2↔z∈s.map z2∨z=z2 p)∧∀ q∈addK s p,q∈s∨q=p:=by
 unfold addK
 by_cases h:s.any (fun q=>q1h p q)=true
 ·rw[if_pos h]
  obtain⟨q,hq,e⟩:=List.any_eq_true.1 h
  have e:=(q1G hp (hs q hq)).1 e
  exact⟨hn,fun z=>⟨Or.inl,fun k=>k.elim id fun k=>by rw[k,e];exact List.mem_map_of_mem hq⟩,fun q hq=>Or.inl hq⟩
 ·rw[if_neg h]
  refine⟨?_,fun z=>by rw[List.map_append,List.mem_append,List.map_singleton,List.mem_singleton],fun q hq=>(List.mem_append.1 hq).imp_right List.mem_singleton.1⟩
  rw[List.map_append,List.nodup_append]
  refine⟨hn,by simp,fun a ha b hb e=> ?_⟩
  rw[List.map_singleton,List.mem_singleton] at hb
  obtain⟨q,hq,rfl⟩:=List.mem_map.1 ha
  exact h (List.any_eq_true.2 ⟨q,hq,(q1G hp (hs q hq)).2 (by rw[e,hb])⟩)
theorem q6c:∀ (l s:List (Nat×Nat)),(∀ p∈l,FinP p)→(∀ q∈s,FinP q)→(s.map z2).Nodup→
  ((l.foldl addK s).map z2).Nodup∧(∀ z,z∈(l.foldl addK s).map z2↔z∈s.map z2∨z∈l.map z2)∧∀ q∈l.foldl addK s,q∈s∨q∈l:=by
 intro l
 induction l with
 |nil=>intro s _ _ hn;exact⟨hn,fun z=>by simp,fun q hq=>Or.inl hq⟩
 |cons p l ih=>
  intro s hl hs hn
  have hp:=hl p (by simp)
  obtain⟨k1,k2,k3⟩:=qaM hs hp hn
  obtain⟨m1,m2,m3⟩:=ih (addK s p) (fun q hq=>hl q (by simp [hq])) (fun q hq=>(k3 q hq).elim (hs q) fun e=>by rw[e];exact hp) k1
  refine⟨m1,fun z=> ?_,fun q hq=> ?_⟩
  ·show z∈(l.foldl addK (addK s p)).map z2↔_
   rw[m2 z,k2 z,List.map_cons,List.mem_cons,or_assoc]
  ·rcases m3 q hq with h|h
   ·rcases k3 q h with h|h
    ·exact Or.inl h
    ·rw[h];exact Or.inr (by simp)
   ·exact Or.inr (by simp [h])
theorem q4L {l:List (Nat×Nat)} (hl:∀ p∈l,FinP p):((l.foldl addK []).map z2).Nodup∧(∀ z,z∈(l.foldl addK []).map z2↔z∈l.map z2)∧∀ q∈l.foldl addK [],q∈l:=by
 obtain⟨h1,h2,h3⟩:=q6c l [] hl (fun q hq=>nomatch hq) List.nodup_nil
 refine⟨h1,fun z=> ?_,fun q hq=>(h3 q hq).elim (fun h=>nomatch h) id⟩
 rw[h2 z]
 simp
/-- Both have the same points in the same order. -/
theorem q8n {l s r:List (Nat×Nat)} (hl:∀ p∈l,FinP p) (hs:s.Perm l) (ss:q0y s) (hr:r.Perm (l.foldl addK [])) (sr:q0y r):(q0u s s.length).map z2=r.map z2:=by
 obtain⟨k1,k2,-⟩:=q4L hl
 obtain⟨m1,m2⟩:=q9n ss (fun p hp=>hl p (hs.mem_iff.1 hp))
 refine Hull.same_sorted _ _ m1 (q4v sr (((hr.map z2).nodup_iff).2 k1)) fun z=> ?_
 rw[m2 z,(hs.map z2).mem_iff,(hr.map z2).mem_iff,k2 z]
end Go.Proofs.YtdidnnbpdcanlaaGreatDoor.EN
