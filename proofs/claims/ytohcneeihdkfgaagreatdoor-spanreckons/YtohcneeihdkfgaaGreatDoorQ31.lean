/- What is proved here: contracts of the reference's ratios: norm (lowest terms), over this seat's translation. -/
import Derived.Test.YtohcneeihdkfgaaGreatDoorQ9
import Derived.Test.YtohcneeihdkfgaaGreatDoorQ1
import Derived.Test.YtohcneeihdkfgaaGreatDoorQ10
import Derived.Test.YtohcneeihdkfgaaGreatDoorQ3
import Derived.Test.YtohcneeihdkfgaaGreatDoorQ8
import Derived.Test.YtohcneeihdkfgaaGreatDoorQ30
import Derived.Test.YtohcneeihdkfgaaGreatDoorQ6
namespace Go.Proofs.YtohcneeihdkfgaaGreatDoor
open Go.ChangeShapes Go.WideShapes Go.ChangeAt Go.RowKit
open BN
/-- The Rat at block b, its cells told apart: sign and size of the upper part, size of the lower one. -/
structure RA (w:World) (b:Nat) (n:Bool) (va:Value) (A:Nat) (vb:Value) (B:Nat):Prop where
 a:mQ w b 0 n va
 na:Num w va A
 b:mQ w b 2 false vb
 nb:Num w vb B
theorem RA.grow {w C:World} {b:Nat} {n:Bool} {va vb:Value} {A B:Nat} (h:RA w b n va A vb B) (hb:b<w.heap.size) (g:G w C):RA C b n va A vb B:=by
 obtain⟨⟨c1,D,f1,f2⟩,na,⟨E,F,f3,f4⟩,nb⟩:=h;exact⟨⟨g.cell hb c1,g.cell hb D,g.frozen hb f1,g.frozen hb f2⟩,na.G g,⟨g.cell hb E,g.cell hb F,g.frozen hb f3,g.frozen hb f4⟩,nb.G g⟩
theorem RA.setA {w:World} {b:Nat} {n:Bool} {va vb v:Value} {A B D:Nat} (h:RA w b n va A vb B) (hv:Num w v D):RA (w.setCell ⟨b,1,none⟩ v) b n v D vb B:=by
 obtain⟨⟨c1,C,f1,f2⟩,na,⟨E,F,f3,f4⟩,nb⟩:=h;have hu:∀ z,va≠ .int .u32 z:=fun z=>jk na _ z;refine⟨⟨?_,World.cell?_setCell_same _ _ _ C,by rw[World.frozen?_setCell];exact f1,by rw[World.frozen?_setCell];exact f2⟩,num_other hv C hu,⟨?_,?_,by rw[World.frozen?_setCell];exact f3,by rw[World.frozen?_setCell];exact f4⟩,num_other nb C hu⟩
 all_goals rw[World.cell?_setCell_other _ _ _ _ (by intro e;injection e with _ e;omega)];assumption
theorem RA.setB {w:World} {b:Nat} {n:Bool} {va vb v:Value} {A B D:Nat} (h:RA w b n va A vb B) (hv:Num w v D):RA (w.setCell ⟨b,3,none⟩ v) b n va A v D:=by
 obtain⟨⟨c1,E,f1,f2⟩,na,⟨F,C,f3,f4⟩,nb⟩:=h;have hu:∀ z,vb≠ .int .u32 z:=fun z=>jk nb _ z;refine⟨⟨?_,?_,by rw[World.frozen?_setCell];exact f1,by rw[World.frozen?_setCell];exact f2⟩,num_other na C hu,⟨?_,World.cell?_setCell_same _ _ _ C,by rw[World.frozen?_setCell];exact f3,by rw[World.frozen?_setCell];exact f4⟩,num_other hv C hu⟩
 all_goals rw[World.cell?_setCell_other _ _ _ _ (by intro e;injection e with _ e;omega)];assumption
theorem RA.is {w:World} {b:Nat} {n:Bool} {va vb:Value} {A B:Nat} (h:RA w b n va A vb B) (C:n=true→A≠0):RatIs w b (sg n A) (B:Int):=
 ⟨⟨n,va,A,h.a,h.na,rfl,C⟩,⟨false,vb,B,h.b,h.nb,rfl,fun h=>by cases h⟩⟩
theorem kz {w:World} {v:Value} {n:Nat} (h:Num w v n):∃ p k c,v= .slice p k c:=by
 obtain⟨l,A,-⟩:=h;obtain⟨p,c,e,-⟩:=fF A;exact⟨p,_,c,e⟩
/-- A slice of a number above 0, for the test whether it is 1. -/
theorem jA {w:World} {v:Value} {n:Nat} (h:Num w v n) (D:0<n):∃ (b o j c d:Nat),v= .slice (some ⟨b,o,none⟩) j c∧b<w.heap.size∧w.cell? ⟨b,o,none⟩=some (.int .u32 (d:Nat))∧d<4294967296∧((j=1∧d=n)∨(j≠1∧n≠1)):=by
 obtain⟨l,C,E,rfl⟩:=h;rcases Sl.cases C with ⟨rfl,-⟩|⟨A,b,o,c,rfl,-,hb,F⟩
 ·simp [val] at D
 ·have B:=F 0 (cq.2 A);rw[aP] at B;refine⟨b,o,l.length,c,_,rfl,hb,B,ff C.1 0,?_⟩;by_cases h1:l.length=1
  ·refine Or.inl ⟨h1,?_⟩;obtain⟨x,rfl⟩:=List.length_eq_one_iff.1 h1;simp [val]
  ·refine Or.inr ⟨h1,fun h2=> ?_⟩;have h3:=gS E A;have I:2^32≤2^(32*(l.length-1)):=ao eX (by have:=cq.2 A;omega);omega
/-- What norm leaves behind. -/
def NormTo (w:World) (b:Nat) (sa:Int) (B:Nat) (e:Ending) (A:World):Prop:=e= .returned (.pointer (some ⟨b,0,none⟩))∧GX b w A∧RatIs A b sa (B:Int)
/-- The greatest divisor, twos first. -/
theorem q4A {A B k:Nat}:Nat.gcd (A*2^k) (B*2^k)=Nat.gcd A B*2^k:=Nat.gcd_mul_right A (2^k) B
theorem q4y {A O:Nat} (k:Nat) (h:A%2=1):Nat.gcd A (O*2^k)=Nat.gcd A O:=by
 have h1:Nat.Coprime A (2^k):=by
  refine Nat.Coprime.pow_right k ?_;rw[Nat.coprime_comm,Nat.Coprime,eE,h];rfl
 exact Nat.Coprime.gcd_mul_right_cancel_right O h1.symm
theorem pI {w:World} {b:Nat} {n:Bool} {A B C:Nat} {D:Int} (h1:sg n (A/Nat.gcd A B)=D) (h2:B/Nat.gcd A B=C) (h:RatIs w b (sg n (A/Nat.gcd A B)) ((B/Nat.gcd A B:Nat):Int)):RatIs w b D (C:Int):=by
 rw[h1,h2] at h;exact h
theorem q53 (n:Bool) (a g:Nat):sg n (a/g)=Int.tdiv (sg n a) g:=by
 unfold sg;cases n<;>simp [Int.neg_tdiv]
set_option maxRecDepth 10000 in
set_option maxHeartbeats 8000000 in
/-- norm, of a lower part above 0 or below. -/
theorem ri (w0:World) (b:Nat) (pn:Int) (pd K:Nat) (hK:K≤300000) (X:b<w0.heap.size)
  (H:(∃ n va vb A B,RA w0 b n va A vb B∧A<2^(32*K)∧B<2^(32*K)∧0<B∧(n=true→A≠0)∧sg n (A/Nat.gcd A B)=pn∧B/Nat.gcd A B=pd)∨
   ∃ (sa:Int) (B:Nat),sa.natAbs<2^(32*K)∧B<2^(32*K)∧0<B∧IntIs w0 b 0 sa∧IntIs w0 b 2 (-(B:Int))∧pn=Int.tdiv (-sa) (Nat.gcd sa.natAbs B:Nat)∧pd=B/Nat.gcd sa.natAbs B):
  Calls Tryz.prog 147 #[.pointer (some ⟨b,0,none⟩)] w0 (NormTo w0 b pn pd):=by
 rcases H with ⟨n,va,vb,A,D,h,eu,y,s,Y,si,qs⟩|⟨sa,B,oi,y,s,ha,qb,sh,sb⟩
 focus
  have ce:Hid (sg n (A/Nat.gcd A D)=pn):=si;have cc:Hid (D/Nat.gcd A D=pd):=qs;clear si qs;obtain⟨w,rfl⟩:∃ w,w=w0:=⟨_,rfl⟩;have c:Hid (GX b w w):=GX.of (ad w);have hb:b<w.heap.size:=X;clear X;go_enter Tryz.func147,Tryz.ntmps147
 rotate_left
 focus
  have d:Hid (∀ w,G w0 w→Calls Tryz.prog 84 #[.pointer (some ⟨b,0,none⟩),.pointer (some ⟨b,0,none⟩)] w (SetTo w b 0 (-sa))):=fun w g=>nv w b 0 b 0 sa sa K eX oi (aj X g.size) (aj X g.size) (ha.G X g) (ha.G X g);have jj:Hid (∀ w1,b<w1.heap.size→IntIs w1 b 2 (-(B:Int))→Calls Tryz.prog 84 #[.pointer (some ⟨b,2,none⟩),.pointer (some ⟨b,2,none⟩)] w1 (SetTo w1 b 2 (B:Int))):=fun w1 h1 h2=>by
   have h:=nv w1 b 2 b 2 _ _ K eX (by rw[Int.natAbs_neg,aA];exact y) h1 h1 h2 h2;rw[Int.neg_neg] at h;exact h
  have pm:Hid (IntIs w0 b 0 sa):=ha;have po:Hid (IntIs w0 b 2 (-(B:Int))):=qb;obtain⟨nb,vb,b',⟨c1,c2,-,-⟩,hd,cz,-⟩:=qb;have tq:nb=true:=by
   cases nb
   ·unfold sg at cz;simp at cz;omega
   ·rfl
  subst tq;obtain⟨m,hm,bm,N⟩:=hd;obtain⟨pb,cb,rfl,-,-⟩:=fF hm;have am:m.length≠0:=by
   intro h0;rw[aN h0] at N;have:b'=0:=N.symm;rw[this] at cz;unfold sg at cz;simp at cz;omega
  have an:((m.length:Int)==0)=false:=by simp;intro h;exact am (by rw[h];rfl)
  generalize m.length=j at *;simp only[Nat.reduceAdd] at c2;have oo:Hid (0<B):=s;have py:Hid (sa.natAbs<2^(32*K)):=oi;have ii:Hid (B<2^(32*K)):=y;clear hm bm N cz am ha s oi y;go_enter Tryz.func147,Tryz.ntmps147;go_wp2_with fail;refine jU 6 1 [.is (.pointer (some ⟨b,0,none⟩)),.is (.pointer (some ⟨b,0,none⟩)),.is (.pointer (some ⟨b,0,none⟩)),.is (.pointer (some ⟨b,0,none⟩)),.is (.pointer (some ⟨b,0,none⟩)),.is (.pointer (some ⟨b,0,none⟩))] [some 27,some 28,some 29,some 30,some 31,some 32] ?_;intro A hA;simp only[fG,Act.put,aq,ay,az] at hA;subst hA;refine⟨?_,?_⟩
  ·skip
   refine aa rfl ?a1 (aa rfl ?a6 (aa rfl ?a7 (aa rfl ?a8 (aa rfl ?b0 (aa rfl ?o1_5 (bN))))))
   case a1|a6|a7|a8|b0|o1_5=>
    exact jX
  intro wa ga hH;clear hH;refine wpAny_ready (rs:=[6]) eZ fX ?_;refine AllReady.cons rfl (fun K hK=> ?_) AllReady.nil;go_simp;go_wp2_with (go_at_call 84;refine eW (d.out wa ga) ?_;intro e w1 hs;have hc:=hs;obtain⟨rfl,-,-,-⟩:=hs);refine wpAny_done eZ ?_ _;have hs:=SetTo.after X ga hc;have cr:=SetTo.keep pm.out hs po.out X (Or.inr (Or.inr eX));obtain⟨-,fp,-,qz⟩:=hs;have cl:b<w1.heap.size:=aj X fp.size;have jp:Hid (∀ w,G w1 w→_):=fun w g=>jj.out w (aj cl g.size) (cr.G cl g);have pi:Hid (IntIs w1 b 0 (-sa)):=qz;have pp:Hid (IntIs w1 b 2 (-(B:Int))):=cr;clear d jj pm po cr qz c1 c2 an hc ga;go_wp2_with fail;refine jU 6 1 [.is (.pointer (some ⟨b,0,none⟩)),.is (.pointer (some ⟨b,0,none⟩)),.is (.pointer (some ⟨b,2,none⟩)),.is (.pointer (some ⟨b,0,none⟩)),.is (.pointer (some ⟨b,0,none⟩)),.is (.pointer (some ⟨b,2,none⟩))] [some 34,some 35,some 36,some 37,some 38,some 39] ?_;intro A hA;simp only[fG,Act.put,aq,ay,az] at hA;subst hA;refine⟨?_,?_⟩
  ·skip
   refine aa rfl ?b1 (aa rfl ?b2 (aa rfl ?b3 (aa rfl ?b4 (aa rfl ?b5 (aa rfl ?o2_5 (bN))))))
   case b1|b2|b3|b4|b5|o2_5=>
    exact jX
  intro wb gb hH;clear hH;refine wpAny_ready (rs:=[6]) eZ fX ?_;refine AllReady.cons rfl (fun K hK=> ?_) AllReady.nil;go_simp;go_wp2_with (go_at_call 84;refine eW (jp.out wb gb) ?_;intro e w hs;have hc:=hs;obtain⟨rfl,-,-,-⟩:=hs);refine wpAny_done eZ ?_ _;have hs:=SetTo.after cl gb hc;have tm:=SetTo.keep pp.out hs pi.out cl (Or.inr (Or.inl eX));obtain⟨-,fr,-,hi2⟩:=hs;have hb:b<w.heap.size:=aj cl fr.size;have c:Hid (GX b w0 w):=GX.trans fp fr;clear jp pi pp fp fr X cl hc gb;obtain⟨n,va,A,ia,sq,ea,Y⟩:=tm;obtain⟨n2,vb,D,ib,ss,eb,rv⟩:=hi2;have tp:n2=false:=by
   cases n2
   ·rfl
   ·have h1:=rv rfl;unfold sg at eb;simp at eb;omega
  subst tp;have td:D=B:=by unfold sg at eb;simp at eb;omega
  subst td;have hj:A=sa.natAbs:=by have h1:=gp ea;rw[Int.natAbs_neg] at h1;exact h1
  have ce:Hid (sg n (A/Nat.gcd A D)=pn):=by
   show sg n (A/Nat.gcd A D)=pn;rw[q53,ea,sh,← hj]
  have cc:Hid (D/Nat.gcd A D=pd):=by show D/Nat.gcd A D=pd;rw[sb,← hj]
  clear sh sb;have eu:A<2^(32*K):=by rw[hj];exact py.out
  have y:=ii.out;have s:=oo.out;have h:RA w b n va A vb D:=⟨ia,sq,ib,ss⟩;clear ia sq ib ss ea eb rv hj py ii oo
 all_goals
  have o:Hid (RA w b n va A vb D):=h;obtain⟨⟨c1,c2,f1,f2⟩,na,⟨c3,c4,f3,f4⟩,nb⟩:=h;obtain⟨l,hl,fb,al⟩:=na;obtain⟨m,hm,bm,N⟩:=nb;obtain⟨pa,ca,rfl,ho,-⟩:=fF hl;obtain⟨pb,cb,rfl,hp,gm⟩:=fF hm;have am:m.length≠0:=by
   intro h0;rw[aN h0] at N;have:D=0:=N.symm;omega
  have an:((m.length:Int)==0)=false:=by simp;intro h;exact am (by rw[h];rfl)
  by_cases ai:A=0
  ·have bu:l.length=0:=by
    rw[ai] at al;rw[(ie fb).1 al];rfl
   have hn:n=false:=by
    cases n
    ·rfl
    ·exact absurd ai (Y rfl)
   subst hn ai;have lc:Hid (pn=0):=by show pn=0;rw[← ce.out,Nat.zero_div];rfl
   have lg:Hid (pd=1):=by show pd=1;rw[← cc.out,Nat.gcd_zero_left,Nat.div_self s]
   have HS:Hid (Calls Tryz.prog 148 #[.pointer (some ⟨b,2,none⟩),.int .i64 1] w (SetTo w b 2 1)):=q3H w b 2 1 D eX hb (o.out.is Y).2;have tc:Hid (IntIs w b 0 0):=(o.out.is Y).1;have hh:Hid (IntIs w b 2 D):=(o.out.is Y).2;rw[bu] at c2;generalize m.length=j at *;clear hl hm fb bm al N hp ho am gm bu f1 f2 f3 f4;go_wp2_with fail;refine eW HS.out ?_;intro e w2 hs;have hk:=SetTo.keep hh.out hs tc.out hb (Or.inr (Or.inl eX));obtain⟨rfl,h1,-,h2⟩:=hs;go_wp2_with fail;go_ret;exact⟨rfl,GX.trans c.out h1,by rw[lc.out];exact hk,by rw[lg.out];exact h2⟩
  ·have bu:l.length≠0:=by
    intro h0;rw[aN h0] at al;exact ai al.symm
   have kx:((l.length:Int)==0)=false:=by simp;intro h;exact bu (by rw[h];rfl)
   obtain⟨bb,ob,tr,kq,bw⟩:=gm 0 eX;subst tr;rw[aP] at bw;have di:Hid (A≠0):=ai;have ol:Hid (0<D):=s;have hf:Hid (A<2^(32*K)):=eu;have hg:Hid (D<2^(32*K)):=y;have uh:Hid (n=true→A≠0):=Y;have oj:=ff bm.1 0;have he:((m.getD 0 0:Nat):Int)≤4294967295:=by omega
   by_cases cs:m.length=1
   case' pos=>
    have np:m.getD 0 0=D:=by
     obtain⟨x,rfl⟩:=List.length_eq_one_iff.1 cs;rw[iE] at N;simpa using N
    rw[np] at bw he;rw[cs] at c4 an o;by_cases ci:D=1
    case pos=>
     subst ci;have HR:=hi9 (o.out.is Y);have lc:Hid (pn=sg n A):=by show pn=sg n A;rw[← ce.out,dG,dU]
     have lg:Hid (pd=1):=by show pd=1;rw[← cc.out,dG,dU]
     generalize l.length=i at *;clear hl hm fb bm al N hp ho am gm bu f1 f2 f3 f4 eu y s Y oj cs np ai;go_wp2_with fail;go_ret;exact⟨rfl,c.out,by rw[lc.out,lg.out];exact HR.out⟩
    have qa:((D:Int)==1)=false:=by simp;omega
    generalize l.length=i at *;clear hl hm fb bm al N hp ho am gm bu f1 f2 f3 f4 eu y s Y oj cs np ai ci;go_wp2_with fail;clear bw an qa kx c1 c3 kq he;obtain⟨vb,hd⟩:∃ vb,vb=Value.slice (some ⟨bb,ob,none⟩) 1 cb:=⟨_,rfl⟩
   case' neg=>
    have rr:((m.length:Int)==1)=false:=by simp;intro h;exact cs eX
    generalize l.length=i at *;generalize m.length=j at *;clear hl hm fb bm al N hp ho am gm bu f1 f2 f3 f4 eu y s Y oj cs he bw ai;go_wp2_with fail;clear an rr kx c1 c3 kq;obtain⟨vb,hd⟩:∃ vb,vb=Value.slice (some ⟨bb,ob,none⟩) j cb:=⟨_,rfl⟩
   all_goals
    as_aux_lemma=>
     obtain⟨va,so⟩:∃ va,va=Value.slice pa i ca:=⟨_,rfl⟩;rw[← hd] at o ⊢;rw[← so] at o;clear so hd;clear c2 c4;refine eW (me w _ D K eX o.out.nb hg.out (by have:=ol.out;omega)) ?_;rintro e w1 ⟨k,rfl,nl,bq⟩;have pr:Hid (kh D k):=nl;have af:Hid (RA w1 b n va A vb D):=o.out.grow hb bq;have ul:k<32*K:=(aV (by omega:1<2)).1 (aD (jH (by have:=ol.out;omega) nl.1) hg.out);have uk:(k:Int)≤9600000:=by omega
     have d1:=af.out.a.2.1;have d3:=af.out.b.2.1;simp only[aK,Nat.reduceAdd] at d1 d3;have pz:=hi9 (me w1 _ A K eX af.out.na hf.out di.out);clear nl;go_wp2_with fail;refine eW pz.out ?_;rintro e w2 ⟨k2,rfl,ni,ms⟩;have pq:Hid (kh A k2):=ni;have uc:k2<32*K:=(aV (by omega:1<2)).1 (aD (jH di.out ni.1) hf.out);have ub:(k2:Int)≤9600000:=by omega
     have E:Hid (RA w2 b n va A vb D):=af.out.grow (de bq hb) ms;have fa:=ab bq ms;clear ni d1 d3 bq ms af pz;have d1:=E.out.a.2.1;have d3:=E.out.b.2.1;simp only[aK,Nat.reduceAdd] at d1 d3;obtain⟨C,rc,kr⟩:∃ C:Nat,(if k2<k then (k2:Int) else (k:Int))=C∧C=min k k2:=by
      by_cases hk:k2<k
      ·exact⟨k2,by rw[if_pos hk],by omega⟩
      ·exact⟨k,by rw[if_neg hk],by omega⟩
     have uf:Hid (C=min k k2):=kr;have rn:(C:Int)≤9600000:=by omega
     have rp:C≤k:=by omega
     have ee:Hid (A=A/2^C*2^C∧D=D/2^C*2^C):=by
      have h1:=pq.out.1;have h2:=pr.out.1;have h3:2^C∣A:=eO (Nat.pow_dvd_pow 2 eX) (dy h1);have h4:2^C∣D:=eO (Nat.pow_dvd_pow 2 rp) (dy h2);exact⟨(Nat.div_mul_cancel h3).symm,(Nat.div_mul_cancel h4).symm⟩
     have cd:Hid (A/2^C%2=1∨k-C=0):=by
      show A/2^C%2=1∨k-C=0;by_cases hk:k2<k
      ·have e:C=k2:=by omega
       rw[e];exact Or.inl pq.out.2
      ·exact Or.inr eX
     have ep:Hid (kh (D/2^C) (k-C)):=by
      have h5:=ee.out.2;obtain⟨h6,h7⟩:=pr.out;have e:2^k=2^C*2^(k-C):=by rw[← ah];congr 1;omega
      constructor
      ·rw[e,eD] at h6;have:2^C*(D/2^C%2^(k-C))=0:=by omega
       rcases Nat.mul_eq_zero.1 this with h|h
       ·exact absurd h (bQ.1 (ae _))
       ·exact h
      ·rw[e,← bR] at h7;exact h7
     have lk:=E.out.a.2.2.2;have lm:=E.out.b.2.2.2;simp only[aK,Nat.reduceAdd] at lk lm;clear kr;by_cases fv:0<C
     case' pos=>
      have bs:decide (0<C)=true:=by simpa using fv
      have pv:Hid (Calls Tryz.prog 220 #[va,.int .u64 (C:Int)] w2 (fo w2 (A/2^C))):=iN w2 va A C K eX eX E.out.na hf.out;clear fv;go_wp2_with fail;refine eW pv.out ?_;rintro e w3 ⟨un,rfl,hq,nr⟩;obtain⟨p3,k3,ag,rfl⟩:=kz nr;have gg:=E.out.grow (de fa hb) hq;have em:Hid (RA (w3.setCell ⟨b,1,none⟩ (Value.slice p3 k3 ag)) b n (Value.slice p3 k3 ag) (A/2^C) vb D):=RA.setA gg nr;have io:Hid (GX b w (w3.setCell ⟨b,1,none⟩ (Value.slice p3 k3 ag))):=GX.set (GX.of (ab fa hq)) (Value.slice p3 k3 ag);have qc:b<(w3.setCell ⟨b,1,none⟩ (Value.slice p3 k3 ag)).heap.size:=by have:=de (ab fa hq) hb;simpa [World.setCell] using this
      have e1:=gg.a.2.1;have U:=gg.a.2.2.2;have e3:=gg.b.2.1;simp only[aK,Nat.reduceAdd] at e1 U e3;clear gg nr d1 d3 lk lm hq;go_wp2_with fail;clear e1 U e3 E pv;generalize w3.setCell ⟨b,1,none⟩ (Value.slice p3 k3 ag)=w4 at *;have hh:Hid (Calls Tryz.prog 220 #[vb,.int .u64 (C:Int)] w4 (fo w4 (D/2^C))):=iN w4 vb D C K eX eX em.out.nb hg.out;refine eW hh.out ?_;rintro e w5 ⟨uo,rfl,hr,nx⟩;obtain⟨p5,k5,bl,rfl⟩:=kz nx;have hz:=em.out.grow qc hr;have F:Hid (RA (w5.setCell ⟨b,3,none⟩ (Value.slice p5 k5 bl)) b n (Value.slice p3 k3 ag) (A/2^C) (Value.slice p5 k5 bl) (D/2^C)):=RA.setB hz nx;have dr:Hid (GX b w (w5.setCell ⟨b,3,none⟩ (Value.slice p5 k5 bl))):=GX.set (GX.trans io.out (GX.of hr)) (Value.slice p5 k5 bl);have mm:b<(w5.setCell ⟨b,3,none⟩ (Value.slice p5 k5 bl)).heap.size:=by have:=de hr qc;simpa [World.setCell] using this
      have e3:=hz.b.2.1;have W:=hz.b.2.2.2;simp only[Nat.reduceAdd] at e3 W;have ts:IntKind.u64.wrap ((k:Int)-C)=((k-C:Nat):Int):=by rw[IntKind.wrap_u64];omega
      clear hz nx hr em io hh;go_wp2_with fail;clear e3 W ts rc bs;generalize w5.setCell ⟨b,3,none⟩ (Value.slice p5 k5 bl)=w6 at *;obtain⟨R,ap⟩:∃ R,R=Value.slice p3 k3 ag:=⟨_,rfl⟩;obtain⟨Z,S⟩:∃ Z,Z=Value.slice p5 k5 bl:=⟨_,rfl⟩;rw[← ap,← S] at F;rw[← S];clear ap S
     case' neg=>
      obtain rfl:C=0:=by omega
      have bs:decide (0<0)=false:=rfl;have F:Hid (RA w2 b n va (A/2^0) vb (D/2^0)):=by rw[cf,dU,dU];exact E.out
      have dr:Hid (GX b w w2):=GX.of fa;have mm:=de fa hb;clear E fv;go_wp2_with fail;clear d1 d3 lk lm rc bs rn;obtain⟨C,ks⟩:∃ C,C=0:=⟨_,rfl⟩;have kk:Hid (A/2^C%2=1∨k-C=0):=by rw[ks];exact cd.out
      clear cd;have cd:Hid (A/2^C%2=1∨k-C=0):=kk.out;clear kk;rw[← ks] at F ee ep;obtain⟨R,ap⟩:∃ R,R=va:=⟨_,rfl⟩;obtain⟨Z,S⟩:∃ Z,Z=vb:=⟨_,rfl⟩;rw[← ap,← S] at F;rw[← S];have kw:k=k-C:=by omega
      rw[kw];clear ap S kw
     all_goals
      as_aux_lemma=>
       obtain⟨J,ls⟩:∃ J,J=A/2^C:=⟨_,rfl⟩;obtain⟨B1,ci⟩:∃ B1,B1=D/2^C:=⟨_,rfl⟩;obtain⟨k1,cr⟩:∃ k1,k1=k-C:=⟨_,rfl⟩;rw[← ls] at F ee cd;rw[← ci] at F ee ep;rw[← cr] at cd ep ⊢;obtain⟨hA,hB⟩:=ee.out;have ua:k1≤32*K:=by omega
       have dl:Hid (J<2^(32*K)∧B1<2^(32*K)):=by
        rw[ls,ci];exact⟨aD (aX _ _) hf.out,aD (aX _ _) hg.out⟩
       clear ls ci cr;obtain⟨O,hO⟩:∃ O,O=B1/2^k1:=⟨_,rfl⟩;have ez:B1=O*2^k1:=by rw[hO];exact(Nat.div_mul_cancel (dy ep.out.1)).symm
       have te:O%2=1:=by rw[hO];exact ep.out.2
       have pu:Hid (O<2^(32*K)):=by rw[hO];exact aD (aX _ _) dl.out.2
       have li:=hi9 (iN _ _ B1 k1 K eX eX F.out.nb dl.out.2);rw[← hO] at li;have qy:Nat.gcd J B1=Nat.gcd J O:=by
        rcases cd.out with h|h
        ·rw[ez];exact q4y k1 h
        ·rw[ez,h,cf,bV]
       have ky:Hid (Nat.gcd A D=Nat.gcd J O*2^C):=by show Nat.gcd A D=Nat.gcd J O*2^C;rw[hA,hB,q4A,qy]
       have lw:0<O:=by omega
       clear hO qy;refine eW li.out ?_;rintro e w7 ⟨tt,rfl,ht,nz⟩;have L:Hid (RA w7 b n R J Z B1):=F.out.grow mm ht;have ds:Hid (GX b w w7):=GX.trans dr.out (GX.of ht);have mn:=de ht mm;have ta:Hid (Num w7 tt O):=nz;obtain⟨b7,o7,j7,c7,d7,rfl,qd,ti,ui,oe⟩:=jA nz lw;have tv:(d7:Int)≤4294967295:=by omega
       have e1:=L.out.a.2.1;have e3:=L.out.b.2.1;have U:=L.out.a.2.2.2;have W:=L.out.b.2.2.2;simp only[aK,Nat.reduceAdd] at e1 e3 U W;clear ht nz F dr li;have dq:Hid (A=J*2^C):=hA;have ov:Hid (D=B1*2^C):=hB;have pt:Hid (0<O):=lw;clear hA hB ez te lw;rcases oe with ⟨fs,bn⟩|⟨tk,tf⟩
       case' inl=>
        have ra:((j7:Int)==1)=true:=by simp;omega
        have tx:(0:Int)<j7:=by omega
        by_cases fh:d7=1
        case pos=>
         subst fh;have bq:Nat.gcd A D=2^C:=by rw[ky.out,← bn,dG,aT]
         have bi:Hid (A/Nat.gcd A D=J∧D/Nat.gcd A D=B1):=by
          rw[bq];exact⟨by rw[dq.out];exact dk _ (ae _),by rw[ov.out];exact dk _ (ae _)⟩
         have d:Hid (n=true→J≠0):=fun h h1=>di.out (by rw[dq.out,h1,bL]);clear bq fs bn;go_wp2_with fail;go_ret;exact⟨rfl,GX.trans c.out ds.out,pI ce.out cc.out (by rw[bi.out.1,bi.out.2];exact L.out.is d.out)⟩
        have qx:((d7:Int)==1)=false:=by simp;omega
        clear fh fs bn
       case' inr=>
        have ra:((j7:Int)==1)=false:=by simp;omega
        clear tk tf
       all_goals
        as_aux_lemma=>
         have kp:0<J:=by
          rcases cm J with h|h
          ·exact absurd (dq.out.trans (by rw[h,bL])) di.out
          ·exact h
         have ox:Hid (Calls Tryz.prog 221 #[R,.slice (some ⟨b7,o7,none⟩) j7 c7] w7 (fo w7 (Nat.gcd J O))):=jM w7 R _ J O K hK L.out.na ta.out kp dl.out.1 pu.out;clear kp;go_wp2_with fail;refine eW ox.out ?_;rintro e w8 ⟨tu,rfl,hw,hy⟩;have hx:0<Nat.gcd J O:=cL _ pt.out;obtain⟨g,nc⟩:∃ g,g=Nat.gcd J O:=⟨_,rfl⟩;have ph:Hid (g∣J∧g∣O):=by rw[nc];exact⟨cj _ _,bW _ _⟩
         rw[← nc] at hy hx ky;have I:Hid (RA w8 b n R J Z B1):=L.out.grow mn hw;have ec:Hid (GX b w w8):=GX.trans ds.out (GX.of hw);have mp:=de hw mn;have ps:Hid (Num w8 tu g):=hy;have la:Hid (0<g):=hx;have bi:Hid (A/Nat.gcd A D=J/g∧D/Nat.gcd A D=B1/g):=by
          rw[ky.out,dq.out,ov.out];exact⟨cW _ _ (ae _),cW _ _ (ae _)⟩
         have ih:Hid (J≠0):=fun h1=>di.out (by rw[dq.out,h1,bL]);have pf:Hid (g<2^(32*K)):=aD (Nat.le_of_dvd pt.out ph.out.2) pu.out;obtain⟨b8,o8,j8,c8,d8,rfl,qm,tj,uj,oe⟩:=jA hy hx;have tw:(d8:Int)≤4294967295:=by omega
         clear e1 e3 U W hy hx nc hw L ds ox mn ti qd;have e1:=I.out.a.2.1;have e3:=I.out.b.2.1;have U:=I.out.a.2.2.2;have W:=I.out.b.2.2.2;simp only[aK,Nat.reduceAdd] at e1 e3 U W;rcases oe with ⟨fs,bn⟩|⟨tl,tg⟩
         case' inl=>
          have rb:((j8:Int)==1)=true:=by simp;omega
          have ty:(0:Int)<j8:=by omega
          by_cases fh:d8=1
          case pos=>
           subst fh;have sz:Hid (g=1):=bn.symm;clear fs bn;go_wp2_with fail;go_ret;exact⟨rfl,GX.trans c.out ec.out,pI ce.out cc.out (by rw[bi.out.1,bi.out.2,sz.out,dU,dU];exact I.out.is (fun _=>ih.out))⟩
          have qx:((d8:Int)==1)=false:=by simp;omega
          clear fh fs bn
         case' inr=>
          have rb:((j8:Int)==1)=false:=by simp;omega
          clear tl tg
         all_goals
          as_aux_lemma=>
           have oy:Hid (Calls Tryz.prog 222 #[R,.slice (some ⟨b8,o8,none⟩) j8 c8] w8 (kl w8 (J/g) (J%g))):=q0y w8 R _ J g K hK I.out.na ps.out dl.out.1 pf.out la.out;have pc:Hid (∀ w9,G w8 w9→Calls Tryz.prog 222 #[Z,.slice (some ⟨b8,o8,none⟩) j8 c8] w9 (kl w9 (B1/g) (B1%g))):=fun w9 k=>q0y w9 Z _ B1 g K hK (I.out.nb.G k) (ps.out.G k) dl.out.2 pf.out la.out;go_wp2_with fail;refine eW oy.out ?_;rintro e w9 ⟨up,um,rfl,jG,oa,-⟩;obtain⟨p9,k9,c9,rfl⟩:=kz oa;have bv:Hid (RA w9 b n R J Z B1):=I.out.grow mp jG;have it:Hid (GX b w w9):=GX.trans ec.out (GX.of jG);have th:=de jG mp;have tb:Hid (Num w9 (.slice p9 k9 c9) (J/g)):=oa;have pe:=hi9 (pc.out w9 jG);clear e1 e3 U W jG oa I ec oy pc tj mp qm;have e1:=bv.out.a.2.1;have e3:=bv.out.b.2.1;simp only[aK,Nat.reduceAdd] at e1 e3;go_wp2_with fail;refine eW pe.out ?_;rintro e sy ⟨ue,ud,rfl,bz,gd,-⟩;obtain⟨st,sp,c10,rfl⟩:=kz gd;have M:=bv.out.grow th bz;have lb:Hid (GX b w sy):=GX.trans it.out (GX.of bz);have px:Hid (RA ((sy.setCell ⟨b,1,none⟩ (.slice p9 k9 c9)).setCell ⟨b,3,none⟩ (.slice st sp c10)) b n (.slice p9 k9 c9) (J/g) (.slice st sp c10) (B1/g)):=
            RA.setB (RA.setA M (tb.out.G bz)) (num_other gd M.a.2.1 (fun z=>jk M.na _ z))
           have d:Hid (n=true→J/g≠0):=fun _=>bQ.1 (ej (Nat.le_of_dvd (cy ih.out) ph.out.1) la.out);clear e1 e3;have e1:=M.a.2.1;have e3:=M.b.2.1;have U:=M.a.2.2.2;have W:=M.b.2.2.2;simp only[aK,Nat.reduceAdd] at e1 e3 U W;clear M bz gd bv it pe;go_wp2_with fail;go_ret;exact⟨rfl,GX.trans c.out (GX.set (GX.set lb.out _) _),pI ce.out cc.out (by rw[bi.out.1,bi.out.2];exact px.out.is d.out)⟩
theorem q2Z (w:World) (b:Nat) (n:Bool) (va vb:Value) (A B K:Nat) (I:K≤300000) (C:A<2^(32*K)) (E:B<2^(32*K)) (D:0<B) (F:n=true→A≠0) (hb:b<w.heap.size) (h:RA w b n va A vb B):
  Calls Tryz.prog 147 #[.pointer (some ⟨b,0,none⟩)] w (NormTo w b (sg n (A/Nat.gcd A B)) (B/Nat.gcd A B)):=
 ri w b _ _ K I hb (Or.inl ⟨n,va,vb,A,B,h,C,E,D,F,rfl,rfl⟩)
theorem q07 (w0:World) (b:Nat) (sa:Int) (B K:Nat) (I:K≤300000) (F:sa.natAbs<2^(32*K)) (C:B<2^(32*K)) (A:0<B) (E:b<w0.heap.size) (J:IntIs w0 b 0 sa) (D:IntIs w0 b 2 (-(B:Int))):
  Calls Tryz.prog 147 #[.pointer (some ⟨b,0,none⟩)] w0 (NormTo w0 b (Int.tdiv (-sa) (Nat.gcd sa.natAbs B:Nat)) (B/Nat.gcd sa.natAbs B)):=
 ri w0 b _ _ K I E (Or.inr ⟨sa,B,F,C,A,J,D,rfl,rfl⟩)
end Go.Proofs.YtohcneeihdkfgaaGreatDoor
