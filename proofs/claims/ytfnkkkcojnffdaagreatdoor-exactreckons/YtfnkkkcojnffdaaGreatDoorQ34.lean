/- What is proved here: contracts of the reference's ratios: norm (lowest terms), over this seat's translation. -/
import Derived.Test.YtfnkkkcojnffdaaGreatDoorQ20
import Derived.Test.YtfnkkkcojnffdaaGreatDoorQ1
import Derived.Test.YtfnkkkcojnffdaaGreatDoorQ8
import Derived.Test.YtfnkkkcojnffdaaGreatDoorQ3
import Derived.Test.YtfnkkkcojnffdaaGreatDoorQ18
import Derived.Test.YtfnkkkcojnffdaaGreatDoorQ26
import Derived.Test.YtfnkkkcojnffdaaGreatDoorQ6
namespace Go.Proofs.YtfnkkkcojnffdaaGreatDoor
open Go.ChangeShapes Go.WideShapes Go.ChangeAt Go.RowKit
open BN
/-- The Rat at block b, its cells told apart: sign and size of the upper part, size of the lower one. -/
structure RA (w:World) (b:Nat) (n:Bool) (va:Value) (A:Nat) (vb:Value) (B:Nat):Prop where
 a:l5 w b 0 n va
 na:Num w va A
 b:l5 w b 2 false vb
 nb:Num w vb B
theorem RA.grow {w C:World} {b:Nat} {n:Bool} {va vb:Value} {A B:Nat} (h:RA w b n va A vb B) (hb:b<w.heap.size) (g:G w C):RA C b n va A vb B:=by
 obtain⟨⟨c1,D,f1,f2⟩,na,⟨E,F,f3,f4⟩,nb⟩:=h;exact⟨⟨g.cell hb c1,g.cell hb D,g.frozen hb f1,g.frozen hb f2⟩,na.G g,⟨g.cell hb E,g.cell hb F,g.frozen hb f3,g.frozen hb f4⟩,nb.G g⟩
theorem RA.setA {w:World} {b:Nat} {n:Bool} {va vb v:Value} {A B D:Nat} (h:RA w b n va A vb B) (hv:Num w v D):RA (w.setCell ⟨b,1,none⟩ v) b n v D vb B:=by
 obtain⟨⟨c1,C,f1,f2⟩,na,⟨E,F,f3,f4⟩,nb⟩:=h;have hu:∀ z,va≠ .int .u32 z:=fun z=>iu na _ z;refine⟨⟨?_,World.cell?_setCell_same _ _ _ C,by rw[World.frozen?_setCell];exact f1,by rw[World.frozen?_setCell];exact f2⟩,num_other hv C hu,⟨?_,?_,by rw[World.frozen?_setCell];exact f3,by rw[World.frozen?_setCell];exact f4⟩,num_other nb C hu⟩
 all_goals rw[World.cell?_setCell_other _ _ _ _ (by intro e;injection e with _ e;omega)];assumption
theorem RA.setB {w:World} {b:Nat} {n:Bool} {va vb v:Value} {A B D:Nat} (h:RA w b n va A vb B) (hv:Num w v D):RA (w.setCell ⟨b,3,none⟩ v) b n va A v D:=by
 obtain⟨⟨c1,E,f1,f2⟩,na,⟨F,C,f3,f4⟩,nb⟩:=h;have hu:∀ z,vb≠ .int .u32 z:=fun z=>iu nb _ z;refine⟨⟨?_,?_,by rw[World.frozen?_setCell];exact f1,by rw[World.frozen?_setCell];exact f2⟩,num_other na C hu,⟨?_,World.cell?_setCell_same _ _ _ C,by rw[World.frozen?_setCell];exact f3,by rw[World.frozen?_setCell];exact f4⟩,num_other hv C hu⟩
 all_goals rw[World.cell?_setCell_other _ _ _ _ (by intro e;injection e with _ e;omega)];assumption
theorem RA.is {w:World} {b:Nat} {n:Bool} {va vb:Value} {A B:Nat} (h:RA w b n va A vb B) (C:n=true→A≠0):RatIs w b (sg n A) (B:Int):=
 ⟨⟨n,va,A,h.a,h.na,rfl,C⟩,⟨false,vb,B,h.b,h.nb,rfl,fun h=>by cases h⟩⟩
theorem jb {w:World} {v:Value} {n:Nat} (h:Num w v n):∃ p k c,v= .slice p k c:=by
 obtain⟨l,A,-⟩:=h;obtain⟨p,c,e,-⟩:=fa A;exact⟨p,_,c,e⟩
/-- A slice of a number above 0, for the test whether it is 1. -/
theorem iG {w:World} {v:Value} {n:Nat} (h:Num w v n) (D:0<n):∃ (b o j c d:Nat),v= .slice (some ⟨b,o,none⟩) j c∧b<w.heap.size∧w.cell? ⟨b,o,none⟩=some (.int .u32 (d:Nat))∧d<4294967296∧((j=1∧d=n)∨(j≠1∧n≠1)):=by
 obtain⟨l,C,E,rfl⟩:=h;rcases Sl.cases C with ⟨rfl,-⟩|⟨A,b,o,c,rfl,-,hb,F⟩
 ·simp [val] at D
 ·have B:=F 0 (bS.2 A);rw[aS] at B;refine⟨b,o,l.length,c,_,rfl,hb,B,eO C.1 0,?_⟩;by_cases h1:l.length=1
  ·refine Or.inl ⟨h1,?_⟩;obtain⟨x,rfl⟩:=List.length_eq_one_iff.1 h1;simp [val]
  ·refine Or.inr ⟨h1,fun h2=> ?_⟩;have h3:=fZ E A;have I:2^32≤2^(32*(l.length-1)):=ai eK (by have:=bS.2 A;omega);omega
/-- What norm leaves behind. -/
def NormTo (w:World) (b:Nat) (sa:Int) (B:Nat) (e:Ending) (A:World):Prop:=e= .returned (.pointer (some ⟨b,0,none⟩))∧GX b w A∧RatIs A b sa (B:Int)
/-- The greatest divisor, twos first. -/
theorem q1D {A B k:Nat}:Nat.gcd (A*2^k) (B*2^k)=Nat.gcd A B*2^k:=Nat.gcd_mul_right A (2^k) B
theorem q1C {A O:Nat} (k:Nat) (h:A%2=1):Nat.gcd A (O*2^k)=Nat.gcd A O:=by
 have h1:Nat.Coprime A (2^k):=by
  refine Nat.Coprime.pow_right k ?_;rw[Nat.coprime_comm,Nat.Coprime,eg,h];rfl
 exact Nat.Coprime.gcd_mul_right_cancel_right O h1.symm
theorem mK {w:World} {b:Nat} {n:Bool} {A B C:Nat} {D:Int} (h1:sg n (A/Nat.gcd A B)=D) (h2:B/Nat.gcd A B=C) (h:RatIs w b (sg n (A/Nat.gcd A B)) ((B/Nat.gcd A B:Nat):Int)):RatIs w b D (C:Int):=by
 rw[h1,h2] at h;exact h
theorem q25 (n:Bool) (a g:Nat):sg n (a/g)=Int.tdiv (sg n a) g:=by
 unfold sg;cases n<;>simp [Int.neg_tdiv]
set_option maxRecDepth 10000 in
set_option maxHeartbeats 8000000 in
/-- norm, of a lower part above 0 or below. -/
theorem nQ (w0:World) (b:Nat) (pn:Int) (pd K:Nat) (hK:K≤300000) (X:b<w0.heap.size)
  (H:(∃ n va vb A B,RA w0 b n va A vb B∧A<2^(32*K)∧B<2^(32*K)∧0<B∧(n=true→A≠0)∧sg n (A/Nat.gcd A B)=pn∧B/Nat.gcd A B=pd)∨
   ∃ (sa:Int) (B:Nat),sa.natAbs<2^(32*K)∧B<2^(32*K)∧0<B∧IntIs w0 b 0 sa∧IntIs w0 b 2 (-(B:Int))∧pn=Int.tdiv (-sa) (Nat.gcd sa.natAbs B:Nat)∧pd=B/Nat.gcd sa.natAbs B):
  Calls Tryz.prog 102 #[.pointer (some ⟨b,0,none⟩)] w0 (NormTo w0 b pn pd):=by
 rcases H with ⟨n,va,vb,A,D,h,en,y,s,Y,sj,qs⟩|⟨sa,B,np,y,s,ha,py,si,sh⟩
 focus
  have cn:Hid (sg n (A/Nat.gcd A D)=pn):=sj;have cl:Hid (D/Nat.gcd A D=pd):=qs;clear sj qs;obtain⟨w,rfl⟩:∃ w,w=w0:=⟨_,rfl⟩;have c:Hid (GX b w w):=GX.of (ag w);have hb:b<w.heap.size:=X;clear X;go_enter Tryz.func102,Tryz.ntmps102
 rotate_left
 focus
  have d:Hid (∀ w,G w0 w→Calls Tryz.prog 66 #[.pointer (some ⟨b,0,none⟩),.pointer (some ⟨b,0,none⟩)] w (SetTo w b 0 (-sa))):=fun w g=>kz w b 0 b 0 sa sa K eK np (ae X g.size) (ae X g.size) (ha.G X g) (ha.G X g);have io:Hid (∀ w1,b<w1.heap.size→IntIs w1 b 2 (-(B:Int))→Calls Tryz.prog 66 #[.pointer (some ⟨b,2,none⟩),.pointer (some ⟨b,2,none⟩)] w1 (SetTo w1 b 2 (B:Int))):=fun w1 h1 h2=>by
   have h:=kz w1 b 2 b 2 _ _ K eK (by rw[et,ar];exact y) h1 h1 h2 h2;rw[Int.neg_neg] at h;exact h
  have pc:Hid (IntIs w0 b 0 sa):=ha;have pe:Hid (IntIs w0 b 2 (-(B:Int))):=py;obtain⟨nb,vb,b',⟨c1,c2,-,-⟩,gz,cz,-⟩:=py;have tp:nb=true:=by
   cases nb
   ·unfold sg at cz;simp at cz;omega
   ·rfl
  subst tp;obtain⟨m,hm,bs,N⟩:=gz;obtain⟨pb,cb,rfl,-,-⟩:=fa hm;have ap:m.length≠0:=by
   intro h0;rw[aH h0] at N;have:b'=0:=N.symm;rw[this] at cz;unfold sg at cz;simp at cz;omega
  have bi:((m.length:Int)==0)=false:=by simp;intro h;exact ap (by rw[h];rfl)
  generalize m.length=j at *;simp only[Nat.reduceAdd] at c2;have oe:Hid (0<B):=s;have pu:Hid (sa.natAbs<2^(32*K)):=np;have hz:Hid (B<2^(32*K)):=y;clear hm bs N cz ap ha s np y;go_enter Tryz.func102,Tryz.ntmps102;go_wp2_with fail;refine jy 6 1 [.is (.pointer (some ⟨b,0,none⟩)),.is (.pointer (some ⟨b,0,none⟩)),.is (.pointer (some ⟨b,0,none⟩)),.is (.pointer (some ⟨b,0,none⟩)),.is (.pointer (some ⟨b,0,none⟩)),.is (.pointer (some ⟨b,0,none⟩))] [some 27,some 28,some 29,some 30,some 31,some 32] ?_;intro A hA;simp only[fg,Act.put,aj,au,av] at hA;subst hA;refine⟨?_,?_⟩
  ·skip
   refine ab rfl ?a1 (ab rfl ?a6 (ab rfl ?a7 (ab rfl ?a8 (ab rfl ?b0 (ab rfl ?o1_5 (bQ))))))
   case a1|a6|a7|a8|b0|o1_5=>
    exact iX
  intro wa ga hH;clear hH;refine wpAny_ready (rs:=[6]) eM fI ?_;refine AllReady.cons rfl (fun K hK=> ?_) AllReady.nil;go_simp;go_wp2_with (go_at_call 66;refine eJ (d.out wa ga) ?_;intro e w1 hs;have gn:=hs;obtain⟨rfl,-,-,-⟩:=hs);refine wpAny_done eM ?_ _;have hs:=SetTo.after X ga gn;have cx:=SetTo.keep pc.out hs pe.out X (Or.inr (Or.inr eK));obtain⟨-,fv,-,ra⟩:=hs;have cs:b<w1.heap.size:=ae X fv.size;have it:Hid (∀ w,G w1 w→_):=fun w g=>io.out w (ae cs g.size) (cx.G cs g);have oy:Hid (IntIs w1 b 0 (-sa)):=ra;have pf:Hid (IntIs w1 b 2 (-(B:Int))):=cx;clear d io pc pe cx ra c1 c2 bi gn ga;go_wp2_with fail;refine jy 6 1 [.is (.pointer (some ⟨b,0,none⟩)),.is (.pointer (some ⟨b,0,none⟩)),.is (.pointer (some ⟨b,2,none⟩)),.is (.pointer (some ⟨b,0,none⟩)),.is (.pointer (some ⟨b,0,none⟩)),.is (.pointer (some ⟨b,2,none⟩))] [some 34,some 35,some 36,some 37,some 38,some 39] ?_;intro A hA;simp only[fg,Act.put,aj,au,av] at hA;subst hA;refine⟨?_,?_⟩
  ·skip
   refine ab rfl ?b1 (ab rfl ?b2 (ab rfl ?b3 (ab rfl ?b4 (ab rfl ?b5 (ab rfl ?o2_5 (bQ))))))
   case b1|b2|b3|b4|b5|o2_5=>
    exact iX
  intro wb gb hH;clear hH;refine wpAny_ready (rs:=[6]) eM fI ?_;refine AllReady.cons rfl (fun K hK=> ?_) AllReady.nil;go_simp;go_wp2_with (go_at_call 66;refine eJ (it.out wb gb) ?_;intro e w hs;have gn:=hs;obtain⟨rfl,-,-,-⟩:=hs);refine wpAny_done eM ?_ _;have hs:=SetTo.after cs gb gn;have tl:=SetTo.keep pf.out hs oy.out cs (Or.inr (Or.inl eK));obtain⟨-,gd,-,ti⟩:=hs;have hb:b<w.heap.size:=ae cs gd.size;have c:Hid (GX b w0 w):=GX.trans fv gd;clear it oy pf fv gd X cs gn gb;obtain⟨n,va,A,ia,sp,ea,Y⟩:=tl;obtain⟨n2,vb,D,ib,sq,eb,sf⟩:=ti;have tm:n2=false:=by
   cases n2
   ·rfl
   ·have h1:=sf rfl;unfold sg at eb;simp at eb;omega
  subst tm;have tb:D=B:=by unfold sg at eb;simp at eb;omega
  subst tb;have hg:A=sa.natAbs:=by have h1:=fP ea;rw[et] at h1;exact h1
  have cn:Hid (sg n (A/Nat.gcd A D)=pn):=by
   show sg n (A/Nat.gcd A D)=pn;rw[q25,ea,si,← hg]
  have cl:Hid (D/Nat.gcd A D=pd):=by show D/Nat.gcd A D=pd;rw[sh,← hg]
  clear si sh;have en:A<2^(32*K):=by rw[hg];exact pu.out
  have y:=hz.out;have s:=oe.out;have h:RA w b n va A vb D:=⟨ia,sp,ib,sq⟩;clear ia sp ib sq ea eb sf hg pu hz oe
 all_goals
  have o:Hid (RA w b n va A vb D):=h;obtain⟨⟨c1,c2,f1,f2⟩,na,⟨c3,c4,f3,f4⟩,nb⟩:=h;obtain⟨l,hl,fr,ao⟩:=na;obtain⟨m,hm,bs,N⟩:=nb;obtain⟨pa,ca,rfl,hh,-⟩:=fa hl;obtain⟨pb,cb,rfl,hj,gm⟩:=fa hm;have ap:m.length≠0:=by
   intro h0;rw[aH h0] at N;have:D=0:=N.symm;omega
  have bi:((m.length:Int)==0)=false:=by simp;intro h;exact ap (by rw[h];rfl)
  by_cases an:A=0
  ·have cc:l.length=0:=by
    rw[an] at ao;rw[(fR fr).1 ao];rfl
   have hn:n=false:=by
    cases n
    ·rfl
    ·exact absurd an (Y rfl)
   subst hn an;have kx:Hid (pn=0):=by show pn=0;rw[← cn.out,Nat.zero_div];rfl
   have ky:Hid (pd=1):=by show pd=1;rw[← cl.out,Nat.gcd_zero_left,Nat.div_self s]
   have HS:Hid (Calls Tryz.prog 103 #[.pointer (some ⟨b,2,none⟩),.int .i64 1] w (SetTo w b 2 1)):=q0V w b 2 1 D eK hb (o.out.is Y).2;have ta:Hid (IntIs w b 0 0):=(o.out.is Y).1;have hf:Hid (IntIs w b 2 D):=(o.out.is Y).2;rw[cc] at c2;generalize m.length=j at *;clear hl hm fr bs ao N hj hh ap gm cc f1 f2 f3 f4;go_wp2_with fail;refine eJ HS.out ?_;intro e w2 hs;have hk:=SetTo.keep hf.out hs ta.out hb (Or.inr (Or.inl eK));obtain⟨rfl,h1,-,h2⟩:=hs;go_wp2_with fail;go_ret;exact⟨rfl,GX.trans c.out h1,by rw[kx.out];exact hk,by rw[ky.out];exact h2⟩
  ·have cc:l.length≠0:=by
    intro h0;rw[aH h0] at ao;exact an ao.symm
   have kq:((l.length:Int)==0)=false:=by simp;intro h;exact cc (by rw[h];rfl)
   obtain⟨bb,ob,tq,jx,ce⟩:=gm 0 eK;subst tq;rw[aS] at ce;have dk:Hid (A≠0):=an;have oa:Hid (0<D):=s;have hd:Hid (A<2^(32*K)):=en;have he:Hid (D<2^(32*K)):=y;have uf:Hid (n=true→A≠0):=Y;have nx:=eO bs.1 0;have hc:((m.getD 0 0:Nat):Int)≤4294967295:=by omega
   by_cases cy:m.length=1
   case' pos=>
    have mp:m.getD 0 0=D:=by
     obtain⟨x,rfl⟩:=List.length_eq_one_iff.1 cy;rw[gK] at N;simpa using N
    rw[mp] at ce hc;rw[cy] at c4 bi o;by_cases cr:D=1
    case pos=>
     subst cr;have HR:=hi9 (o.out.is Y);have kx:Hid (pn=sg n A):=by show pn=sg n A;rw[← cn.out,cS,dF]
     have ky:Hid (pd=1):=by show pd=1;rw[← cl.out,cS,dF]
     generalize l.length=i at *;clear hl hm fr bs ao N hj hh ap gm cc f1 f2 f3 f4 en y s Y nx cy mp an;go_wp2_with fail;go_ret;exact⟨rfl,c.out,by rw[kx.out,ky.out];exact HR.out⟩
    have px:((D:Int)==1)=false:=by simp;omega
    generalize l.length=i at *;clear hl hm fr bs ao N hj hh ap gm cc f1 f2 f3 f4 en y s Y nx cy mp an cr;go_wp2_with fail;clear ce bi px kq c1 c3 jx hc;obtain⟨vb,gz⟩:∃ vb,vb=Value.slice (some ⟨bb,ob,none⟩) 1 cb:=⟨_,rfl⟩
   case' neg=>
    have se:((m.length:Int)==1)=false:=by simp;intro h;exact cy eK
    generalize l.length=i at *;generalize m.length=j at *;clear hl hm fr bs ao N hj hh ap gm cc f1 f2 f3 f4 en y s Y nx cy hc ce an;go_wp2_with fail;clear bi se kq c1 c3 jx;obtain⟨vb,gz⟩:∃ vb,vb=Value.slice (some ⟨bb,ob,none⟩) j cb:=⟨_,rfl⟩
   all_goals
    as_aux_lemma=>
     obtain⟨va,sk⟩:∃ va,va=Value.slice pa i ca:=⟨_,rfl⟩;rw[← gz] at o ⊢;rw[← sk] at o;clear sk gz;clear c2 c4;refine eJ (kD w _ D K eK o.out.nb he.out (by have:=oa.out;omega)) ?_;rintro e w1 ⟨k,rfl,mo,bv⟩;have pm:Hid (jG D k):=mo;have al:Hid (RA w1 b n va A vb D):=o.out.grow hb bv;have uk:k<32*K:=(aY (by omega:1<2)).1 (aq (jz (by have:=oa.out;omega) mo.1) he.out);have uj:(k:Int)≤9600000:=by omega
     have d1:=al.out.a.2.1;have d3:=al.out.b.2.1;simp only[aD,Nat.reduceAdd] at d1 d3;have pv:=hi9 (kD w1 _ A K eK al.out.na hd.out dk.out);clear mo;go_wp2_with fail;refine eJ pv.out ?_;rintro e w2 ⟨k2,rfl,mm,lw⟩;have pi:Hid (jG A k2):=mm;have ub:k2<32*K:=(aY (by omega:1<2)).1 (aq (jz dk.out mm.1) hd.out);have ua:(k2:Int)≤9600000:=by omega
     have E:Hid (RA w2 b n va A vb D):=al.out.grow (dp bv hb) lw;have fp:=aa bv lw;clear mm d1 d3 bv lw al pv;have d1:=E.out.a.2.1;have d3:=E.out.b.2.1;simp only[aD,Nat.reduceAdd] at d1 d3;obtain⟨C,rn,ka⟩:∃ C:Nat,(if k2<k then (k2:Int) else (k:Int))=C∧C=min k k2:=by
      by_cases hk:k2<k
      ·exact⟨k2,by rw[if_pos hk],by omega⟩
      ·exact⟨k,by rw[if_neg hk],by omega⟩
     have ue:Hid (C=min k k2):=ka;have rr:(C:Int)≤9600000:=by omega
     have sb:C≤k:=by omega
     have ed:Hid (A=A/2^C*2^C∧D=D/2^C*2^C):=by
      have h1:=pi.out.1;have h2:=pm.out.1;have h3:2^C∣A:=eD (Nat.pow_dvd_pow 2 eK) (dQ h1);have h4:2^C∣D:=eD (Nat.pow_dvd_pow 2 sb) (dQ h2);exact⟨(Nat.div_mul_cancel h3).symm,(Nat.div_mul_cancel h4).symm⟩
     have cm:Hid (A/2^C%2=1∨k-C=0):=by
      show A/2^C%2=1∨k-C=0;by_cases hk:k2<k
      ·have e:C=k2:=by omega
       rw[e];exact Or.inl pi.out.2
      ·exact Or.inr eK
     have em:Hid (jG (D/2^C) (k-C)):=by
      have h5:=ed.out.2;obtain⟨h6,h7⟩:=pm.out;have e:2^k=2^C*2^(k-C):=by rw[← ah];congr 1;omega
      constructor
      ·rw[e,Nat.mod_mul] at h6;have:2^C*(D/2^C%2^(k-C))=0:=by omega
       rcases Nat.mul_eq_zero.1 this with h|h
       ·exact absurd h (Nat.pos_iff_ne_zero.1 (af _))
       ·exact h
      ·rw[e,← bt] at h7;exact h7
     have lb:=E.out.a.2.2.2;have lc:=E.out.b.2.2.2;simp only[aD,Nat.reduceAdd] at lb lc;clear ka;by_cases gg:0<C
     case' pos=>
      have bz:decide (0<C)=true:=by simpa using gg
      have ps:Hid (Calls Tryz.prog 157 #[va,.int .u64 (C:Int)] w2 (eU w2 (A/2^C))):=ig w2 va A C K eK eK E.out.na hd.out;clear gg;go_wp2_with fail;refine eJ ps.out ?_;rintro e w3 ⟨um,rfl,ho,ms⟩;obtain⟨p3,k3,am,rfl⟩:=jb ms;have gl:=E.out.grow (dp fp hb) ho;have ee:Hid (RA (w3.setCell ⟨b,1,none⟩ (Value.slice p3 k3 am)) b n (Value.slice p3 k3 am) (A/2^C) vb D):=RA.setA gl ms;have ih:Hid (GX b w (w3.setCell ⟨b,1,none⟩ (Value.slice p3 k3 am))):=GX.set (GX.of (aa fp ho)) (Value.slice p3 k3 am);have pz:b<(w3.setCell ⟨b,1,none⟩ (Value.slice p3 k3 am)).heap.size:=by have:=dp (aa fp ho) hb;simpa [World.setCell] using this
      have e1:=gl.a.2.1;have U:=gl.a.2.2.2;have e3:=gl.b.2.1;simp only[aD,Nat.reduceAdd] at e1 U e3;clear gl ms d1 d3 lb lc ho;go_wp2_with fail;clear e1 U e3 E ps;generalize w3.setCell ⟨b,1,none⟩ (Value.slice p3 k3 am)=w4 at *;have hf:Hid (Calls Tryz.prog 157 #[vb,.int .u64 (C:Int)] w4 (eU w4 (D/2^C))):=ig w4 vb D C K eK eK ee.out.nb he.out;refine eJ hf.out ?_;rintro e w5 ⟨un,rfl,hp,nc⟩;obtain⟨p5,k5,bq,rfl⟩:=jb nc;have hx:=ee.out.grow pz hp;have F:Hid (RA (w5.setCell ⟨b,3,none⟩ (Value.slice p5 k5 bq)) b n (Value.slice p3 k3 am) (A/2^C) (Value.slice p5 k5 bq) (D/2^C)):=RA.setB hx nc;have dr:Hid (GX b w (w5.setCell ⟨b,3,none⟩ (Value.slice p5 k5 bq))):=GX.set (GX.trans ih.out (GX.of hp)) (Value.slice p5 k5 bq);have lk:b<(w5.setCell ⟨b,3,none⟩ (Value.slice p5 k5 bq)).heap.size:=by have:=dp hp pz;simpa [World.setCell] using this
      have e3:=hx.b.2.1;have W:=hx.b.2.2.2;simp only[Nat.reduceAdd] at e3 W;have tr:IntKind.u64.wrap ((k:Int)-C)=((k-C:Nat):Int):=by rw[IntKind.wrap_u64];omega
      clear hx nc hp ee ih hf;go_wp2_with fail;clear e3 W tr rn bz;generalize w5.setCell ⟨b,3,none⟩ (Value.slice p5 k5 bq)=w6 at *;obtain⟨R,bl⟩:∃ R,R=Value.slice p3 k3 am:=⟨_,rfl⟩;obtain⟨Z,S⟩:∃ Z,Z=Value.slice p5 k5 bq:=⟨_,rfl⟩;rw[← bl,← S] at F;rw[← S];clear bl S
     case' neg=>
      obtain rfl:C=0:=by omega
      have bz:decide (0<0)=false:=rfl;have F:Hid (RA w2 b n va (A/2^0) vb (D/2^0)):=by rw[bH,dF,dF];exact E.out
      have dr:Hid (GX b w w2):=GX.of fp;have lk:=dp fp hb;clear E gg;go_wp2_with fail;clear d1 d3 lb lc rn bz rr;obtain⟨C,kk⟩:∃ C,C=0:=⟨_,rfl⟩;have jj:Hid (A/2^C%2=1∨k-C=0):=by rw[kk];exact cm.out
      clear cm;have cm:Hid (A/2^C%2=1∨k-C=0):=jj.out;clear jj;rw[← kk] at F ed em;obtain⟨R,bl⟩:∃ R,R=va:=⟨_,rfl⟩;obtain⟨Z,S⟩:∃ Z,Z=vb:=⟨_,rfl⟩;rw[← bl,← S] at F;rw[← S];have kp:k=k-C:=by omega
      rw[kp];clear bl S kp
     all_goals
      as_aux_lemma=>
       obtain⟨J,lg⟩:∃ J,J=A/2^C:=⟨_,rfl⟩;obtain⟨B1,cr⟩:∃ B1,B1=D/2^C:=⟨_,rfl⟩;obtain⟨k1,cx⟩:∃ k1,k1=k-C:=⟨_,rfl⟩;rw[← lg] at F ed cm;rw[← cr] at F ed em;rw[← cx] at cm em ⊢;obtain⟨hA,hB⟩:=ed.out;have ty:k1≤32*K:=by omega
       have dl:Hid (J<2^(32*K)∧B1<2^(32*K)):=by
        rw[lg,cr];exact⟨aq (aN _ _) hd.out,aq (aN _ _) he.out⟩
       clear lg cr cx;obtain⟨O,hO⟩:∃ O,O=B1/2^k1:=⟨_,rfl⟩;have ep:B1=O*2^k1:=by rw[hO];exact(Nat.div_mul_cancel (dQ em.out.1)).symm
       have tc:O%2=1:=by rw[hO];exact em.out.2
       have pr:Hid (O<2^(32*K)):=by rw[hO];exact aq (aN _ _) dl.out.2
       have la:=hi9 (ig _ _ B1 k1 K eK eK F.out.nb dl.out.2);rw[← hO] at la;have qy:Nat.gcd J B1=Nat.gcd J O:=by
        rcases cm.out with h|h
        ·rw[ep];exact q1C k1 h
        ·rw[ep,h,bH,bJ]
       have kr:Hid (Nat.gcd A D=Nat.gcd J O*2^C):=by show Nat.gcd A D=Nat.gcd J O*2^C;rw[hA,hB,q1D,qy]
       have li:0<O:=by omega
       clear hO qy;refine eJ la.out ?_;rintro e w7 ⟨ts,rfl,hq,nd⟩;have L:Hid (RA w7 b n R J Z B1):=F.out.grow lk hq;have ds:Hid (GX b w w7):=GX.trans dr.out (GX.of hq);have lm:=dp hq lk;have sy:Hid (Num w7 ts O):=nd;obtain⟨b7,o7,j7,c7,d7,rfl,qa,tg,uh,nl⟩:=iG nd li;have tu:(d7:Int)≤4294967295:=by omega
       have e1:=L.out.a.2.1;have e3:=L.out.b.2.1;have U:=L.out.a.2.2.2;have W:=L.out.b.2.2.2;simp only[aD,Nat.reduceAdd] at e1 e3 U W;clear hq nd F dr la;have dq:Hid (A=J*2^C):=hA;have oi:Hid (D=B1*2^C):=hB;have pp:Hid (0<O):=li;clear hA hB ep tc li;rcases nl with ⟨gf,bu⟩|⟨tj,td⟩
       case' inl=>
        have rb:((j7:Int)==1)=true:=by simp;omega
        have tw:(0:Int)<j7:=by omega
        by_cases fs:d7=1
        case pos=>
         subst fs;have bv:Nat.gcd A D=2^C:=by rw[kr.out,← bu,cS,b9]
         have bn:Hid (A/Nat.gcd A D=J∧D/Nat.gcd A D=B1):=by
          rw[bv];exact⟨by rw[dq.out];exact cN _ (af _),by rw[oi.out];exact cN _ (af _)⟩
         have d:Hid (n=true→J≠0):=fun h h1=>dk.out (by rw[dq.out,h1,cw]);clear bv gf bu;go_wp2_with fail;go_ret;exact⟨rfl,GX.trans c.out ds.out,mK cn.out cl.out (by rw[bn.out.1,bn.out.2];exact L.out.is d.out)⟩
        have qx:((d7:Int)==1)=false:=by simp;omega
        clear fs gf bu
       case' inr=>
        have rb:((j7:Int)==1)=false:=by simp;omega
        clear tj td
       all_goals
        as_aux_lemma=>
         have jp:0<J:=by
          rcases bo J with h|h
          ·exact absurd (dq.out.trans (by rw[h,cw])) dk.out
          ·exact h
         have oj:Hid (Calls Tryz.prog 158 #[R,.slice (some ⟨b7,o7,none⟩) j7 c7] w7 (eU w7 (Nat.gcd J O))):=iO w7 R _ J O K hK L.out.na sy.out jp dl.out.1 pr.out;clear jp;go_wp2_with fail;refine eJ oj.out ?_;rintro e w8 ⟨tt,rfl,hr,hw⟩;have ht:0<Nat.gcd J O:=ch _ pp.out;obtain⟨g,lx⟩:∃ g,g=Nat.gcd J O:=⟨_,rfl⟩;have ox:Hid (g∣J∧g∣O):=by rw[lx];exact⟨bI _ _,bD _ _⟩
         rw[← lx] at hw ht kr;have I:Hid (RA w8 b n R J Z B1):=L.out.grow lm hr;have ec:Hid (GX b w w8):=GX.trans ds.out (GX.of hr);have ls:=dp hr lm;have po:Hid (Num w8 tt g):=hw;have ks:Hid (0<g):=ht;have bn:Hid (A/Nat.gcd A D=J/g∧D/Nat.gcd A D=B1/g):=by
          rw[kr.out,dq.out,oi.out];exact⟨cM _ _ (af _),cM _ _ (af _)⟩
         have hy:Hid (J≠0):=fun h1=>dk.out (by rw[dq.out,h1,cw]);have ov:Hid (g<2^(32*K)):=aq (Nat.le_of_dvd pp.out ox.out.2) pr.out;obtain⟨b8,o8,j8,c8,d8,rfl,qb,th,ui,nl⟩:=iG hw ht;have tv:(d8:Int)≤4294967295:=by omega
         clear e1 e3 U W hw ht lx hr L ds oj lm tg qa;have e1:=I.out.a.2.1;have e3:=I.out.b.2.1;have U:=I.out.a.2.2.2;have W:=I.out.b.2.2.2;simp only[aD,Nat.reduceAdd] at e1 e3 U W;rcases nl with ⟨gf,bu⟩|⟨tk,te⟩
         case' inl=>
          have rc:((j8:Int)==1)=true:=by simp;omega
          have tx:(0:Int)<j8:=by omega
          by_cases fs:d8=1
          case pos=>
           subst fs;have su:Hid (g=1):=bu.symm;clear gf bu;go_wp2_with fail;go_ret;exact⟨rfl,GX.trans c.out ec.out,mK cn.out cl.out (by rw[bn.out.1,bn.out.2,su.out,dF,dF];exact I.out.is (fun _=>hy.out))⟩
          have qx:((d8:Int)==1)=false:=by simp;omega
          clear fs gf bu
         case' inr=>
          have rc:((j8:Int)==1)=false:=by simp;omega
          clear tk te
         all_goals
          as_aux_lemma=>
           have ol:Hid (Calls Tryz.prog 159 #[R,.slice (some ⟨b8,o8,none⟩) j8 c8] w8 (iY w8 (J/g) (J%g))):=pO w8 R _ J g K hK I.out.na po.out dl.out.1 ov.out ks.out;have oo:Hid (∀ w9,G w8 w9→Calls Tryz.prog 159 #[Z,.slice (some ⟨b8,o8,none⟩) j8 c8] w9 (iY w9 (B1/g) (B1%g))):=fun w9 k=>pO w9 Z _ B1 g K hK (I.out.nb.G k) (po.out.G k) dl.out.2 ov.out ks.out;go_wp2_with fail;refine eJ ol.out ?_;rintro e w9 ⟨uo,ul,rfl,iW,ng,-⟩;obtain⟨p9,k9,c9,rfl⟩:=jb ng;have cd:Hid (RA w9 b n R J Z B1):=I.out.grow ls iW;have ii:Hid (GX b w w9):=GX.trans ec.out (GX.of iW);have tf:=dp iW ls;have sz:Hid (Num w9 (.slice p9 k9 c9) (J/g)):=ng;have ot:=hi9 (oo.out w9 iW);clear e1 e3 U W iW ng I ec ol oo th ls qb;have e1:=cd.out.a.2.1;have e3:=cd.out.b.2.1;simp only[aD,Nat.reduceAdd] at e1 e3;go_wp2_with fail;refine eJ ot.out ?_;rintro e st ⟨ud,uc,rfl,ci,gk,-⟩;obtain⟨ss,so,c10,rfl⟩:=jb gk;have M:=cd.out.grow tf ci;have kw:Hid (GX b w st):=GX.trans ii.out (GX.of ci);have pt:Hid (RA ((st.setCell ⟨b,1,none⟩ (.slice p9 k9 c9)).setCell ⟨b,3,none⟩ (.slice ss so c10)) b n (.slice p9 k9 c9) (J/g) (.slice ss so c10) (B1/g)):=
            RA.setB (RA.setA M (sz.out.G ci)) (num_other gk M.a.2.1 (fun z=>iu M.na _ z))
           have d:Hid (n=true→J/g≠0):=fun _=>Nat.pos_iff_ne_zero.1 (dM (Nat.le_of_dvd (Nat.pos_of_ne_zero hy.out) ox.out.1) ks.out);clear e1 e3;have e1:=M.a.2.1;have e3:=M.b.2.1;have U:=M.a.2.2.2;have W:=M.b.2.2.2;simp only[aD,Nat.reduceAdd] at e1 e3 U W;clear M ci gk cd ii ot;go_wp2_with fail;go_ret;exact⟨rfl,GX.trans c.out (GX.set (GX.set kw.out _) _),mK cn.out cl.out (by rw[bn.out.1,bn.out.2];exact pt.out.is d.out)⟩
theorem q0s (w:World) (b:Nat) (n:Bool) (va vb:Value) (A B K:Nat) (I:K≤300000) (C:A<2^(32*K)) (E:B<2^(32*K)) (D:0<B) (F:n=true→A≠0) (hb:b<w.heap.size) (h:RA w b n va A vb B):
  Calls Tryz.prog 102 #[.pointer (some ⟨b,0,none⟩)] w (NormTo w b (sg n (A/Nat.gcd A B)) (B/Nat.gcd A B)):=
 nQ w b _ _ K I hb (Or.inl ⟨n,va,vb,A,B,h,C,E,D,F,rfl,rfl⟩)
theorem oY (w0:World) (b:Nat) (sa:Int) (B K:Nat) (I:K≤300000) (F:sa.natAbs<2^(32*K)) (C:B<2^(32*K)) (A:0<B) (E:b<w0.heap.size) (J:IntIs w0 b 0 sa) (D:IntIs w0 b 2 (-(B:Int))):
  Calls Tryz.prog 102 #[.pointer (some ⟨b,0,none⟩)] w0 (NormTo w0 b (Int.tdiv (-sa) (Nat.gcd sa.natAbs B:Nat)) (B/Nat.gcd sa.natAbs B)):=
 nQ w0 b _ _ K I E (Or.inr ⟨sa,B,F,C,A,J,D,rfl,rfl⟩)
end Go.Proofs.YtfnkkkcojnffdaaGreatDoor
