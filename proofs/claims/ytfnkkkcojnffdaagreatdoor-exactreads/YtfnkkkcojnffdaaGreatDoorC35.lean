/- What is proved here: contracts of the reference's ratios: norm (lowest terms), over this seat's translation. -/
import Derived.Test.YtfnkkkcojnffdaaGreatDoorC23
import Derived.Test.YtfnkkkcojnffdaaGreatDoorC1
import Derived.Test.YtfnkkkcojnffdaaGreatDoorC8
import Derived.Test.YtfnkkkcojnffdaaGreatDoorC3
import Derived.Test.YtfnkkkcojnffdaaGreatDoorC22
import Derived.Test.YtfnkkkcojnffdaaGreatDoorC27
import Derived.Test.YtfnkkkcojnffdaaGreatDoorC6
namespace Go.Proofs.YtfnkkkcojnffdaaGreatDoor
open Go.ChangeShapes Go.WideShapes Go.ChangeAt Go.RowKit
open BN
/-- The Rat at block b, its cells told apart: sign and size of the upper part, size of the lower one. -/
structure RA (w:World) (b:Nat) (n:Bool) (va:Value) (A:Nat) (vb:Value) (B:Nat):Prop where
 a:jT w b 0 n va
 na:Num w va A
 b:jT w b 2 false vb
 nb:Num w vb B
theorem RA.grow {w D:World} {b:Nat} {n:Bool} {va C:Value} {A B:Nat} (h:RA w b n va A C B) (hb:b<w.heap.size) (g:G w D):RA D b n va A C B:=by
 obtain⟨⟨c1,E,f1,f2⟩,na,⟨F,I,f3,f4⟩,nb⟩:=h;exact⟨⟨g.cell hb c1,g.cell hb E,g.frozen hb f1,g.frozen hb f2⟩,na.G g,⟨g.cell hb F,g.cell hb I,g.frozen hb f3,g.frozen hb f4⟩,nb.G g⟩
theorem RA.setA {w:World} {b:Nat} {n:Bool} {va E v:Value} {A B D:Nat} (h:RA w b n va A E B) (hv:Num w v D):RA (w.setCell ⟨b,1,none⟩ v) b n v D E B:=by
 obtain⟨⟨c1,C,f1,f2⟩,na,⟨F,I,f3,f4⟩,nb⟩:=h;have hu:∀ z,va≠ .int .u32 z:=fun z=>gj na _ z;refine⟨⟨?_,World.cell?_setCell_same _ _ _ C,by rw[World.frozen?_setCell];exact f1,by rw[World.frozen?_setCell];exact f2⟩,num_other hv C hu,⟨?_,?_,by rw[World.frozen?_setCell];exact f3,by rw[World.frozen?_setCell];exact f4⟩,num_other nb C hu⟩
 all_goals rw[World.cell?_setCell_other _ _ _ _ (by intro e;injection e with _ e;omega)];assumption
theorem RA.setB {w:World} {b:Nat} {n:Bool} {va E v:Value} {A B D:Nat} (h:RA w b n va A E B) (hv:Num w v D):RA (w.setCell ⟨b,3,none⟩ v) b n va A v D:=by
 obtain⟨⟨c1,F,f1,f2⟩,na,⟨I,C,f3,f4⟩,nb⟩:=h;have hu:∀ z,E≠ .int .u32 z:=fun z=>gj nb _ z;refine⟨⟨?_,?_,by rw[World.frozen?_setCell];exact f1,by rw[World.frozen?_setCell];exact f2⟩,num_other na C hu,⟨?_,World.cell?_setCell_same _ _ _ C,by rw[World.frozen?_setCell];exact f3,by rw[World.frozen?_setCell];exact f4⟩,num_other hv C hu⟩
 all_goals rw[World.cell?_setCell_other _ _ _ _ (by intro e;injection e with _ e;omega)];assumption
theorem RA.is {w:World} {b:Nat} {n:Bool} {va C:Value} {A B:Nat} (h:RA w b n va A C B) (D:n=true→A≠0):RatIs w b (sg n A) (B:Int):=
 ⟨⟨n,va,A,h.a,h.na,rfl,D⟩,⟨false,C,B,h.b,h.nb,rfl,fun h=>by cases h⟩⟩
theorem iN {w:World} {v:Value} {n:Nat} (h:Num w v n):∃ p k c,v= .slice p k c:=by
 obtain⟨l,A,-⟩:=h;obtain⟨p,c,e,-⟩:=ei A;exact⟨p,_,c,e⟩
/-- A slice of a number above 0, for the test whether it is 1. -/
theorem fo {w:World} {v:Value} {n:Nat} (h:Num w v n) (D:0<n):∃ (b o j c d:Nat),v= .slice (some ⟨b,o,none⟩) j c∧b<w.heap.size∧w.cell? ⟨b,o,none⟩=some (.int .u32 (d:Nat))∧d<4294967296∧((j=1∧d=n)∨(j≠1∧n≠1)):=by
 obtain⟨l,C,E,rfl⟩:=h;rcases Sl.cases C with ⟨rfl,-⟩|⟨A,b,o,c,rfl,-,hb,F⟩
 ·simp [val] at D
 ·have B:=F 0 (bD.2 A);rw[aP] at B;refine⟨b,o,l.length,c,_,rfl,hb,B,dW C.1 0,?_⟩;by_cases h1:l.length=1
  ·refine Or.inl ⟨h1,?_⟩;obtain⟨x,rfl⟩:=List.length_eq_one_iff.1 h1;simp [val]
  ·refine Or.inr ⟨h1,fun h2=> ?_⟩;have h3:=eN E A;have I:2^32≤2^(32*(l.length-1)):=ak dT (by have:=bD.2 A;omega);omega
/-- What norm leaves behind. -/
def NormTo (w:World) (b:Nat) (sa:Int) (B:Nat) (e:Ending) (A:World):Prop:=e= .returned (.pointer (some ⟨b,0,none⟩))∧GX b w A∧RatIs A b sa (B:Int)
/-- The greatest divisor, twos first. -/
theorem q0s {A B k:Nat}:Nat.gcd (A*2^k) (B*2^k)=Nat.gcd A B*2^k:=Nat.gcd_mul_right A (2^k) B
theorem q0r {A O:Nat} (k:Nat) (h:A%2=1):Nat.gcd A (O*2^k)=Nat.gcd A O:=by
 have h1:Nat.Coprime A (2^k):=by
  refine Nat.Coprime.pow_right k ?_;rw[Nat.coprime_comm,Nat.Coprime,dC,h];rfl
 exact Nat.Coprime.gcd_mul_right_cancel_right O h1.symm
theorem ku {w:World} {b:Nat} {n:Bool} {A B C:Nat} {D:Int} (h1:sg n (A/Nat.gcd A B)=D) (h2:B/Nat.gcd A B=C) (h:RatIs w b (sg n (A/Nat.gcd A B)) ((B/Nat.gcd A B:Nat):Int)):RatIs w b D (C:Int):=by
 rw[h1,h2] at h;exact h
theorem q0N (n:Bool) (a g:Nat):sg n (a/g)=Int.tdiv (sg n a) g:=by
 unfold sg;cases n<;>simp [Int.neg_tdiv]
set_option maxRecDepth 10000 in
set_option maxHeartbeats 8000000 in
/-- norm, of a lower part above 0 or below. -/
theorem lJ (w0:World) (b:Nat) (pn:Int) (pd K:Nat) (hK:K≤300000) (X:b<w0.heap.size)
  (H:(∃ n va vb A B,RA w0 b n va A vb B∧A<2^(32*K)∧B<2^(32*K)∧0<B∧(n=true→A≠0)∧sg n (A/Nat.gcd A B)=pn∧B/Nat.gcd A B=pd)∨
   ∃ (sa:Int) (B:Nat),sa.natAbs<2^(32*K)∧B<2^(32*K)∧0<B∧IntIs w0 b 0 sa∧IntIs w0 b 2 (-(B:Int))∧pn=Int.tdiv (-sa) (Nat.gcd sa.natAbs B:Nat)∧pd=B/Nat.gcd sa.natAbs B):
  Calls Tryz.prog 102 #[.pointer (some ⟨b,0,none⟩)] w0 (NormTo w0 b pn pd):=by
 rcases H with ⟨n,va,vb,A,D,h,gm,y,s,Y,ss,rz⟩|⟨sa,B,pr,y,s,ha,rr,sq,sp⟩
 focus
  have cs:Hid (sg n (A/Nat.gcd A D)=pn):=ss;have cn:Hid (D/Nat.gcd A D=pd):=rz;clear ss rz;obtain⟨w,rfl⟩:∃ w,w=w0:=⟨_,rfl⟩;have c:Hid (GX b w w):=GX.of (af w);have hb:b<w.heap.size:=X;clear X;go_enter Tryz.func102,Tryz.ntmps102
 rotate_left
 focus
  have d:Hid (∀ w,G w0 w→Calls Tryz.prog 66 #[.pointer (some ⟨b,0,none⟩),.pointer (some ⟨b,0,none⟩)] w (SetTo w b 0 (-sa))):=fun w g=>qh w b 0 b 0 sa sa K dT pr (ad X g.size) (ad X g.size) (ha.G X g) (ha.G X g);have lc:Hid (∀ w1,b<w1.heap.size→IntIs w1 b 2 (-(B:Int))→Calls Tryz.prog 66 #[.pointer (some ⟨b,2,none⟩),.pointer (some ⟨b,2,none⟩)] w1 (SetTo w1 b 2 (B:Int))):=fun w1 h1 h2=>by
   have h:=qh w1 b 2 b 2 _ _ K dT (by rw[Int.natAbs_neg,bM];exact y) h1 h1 h2 h2;rw[Int.neg_neg] at h;exact h
  have rb:Hid (IntIs w0 b 0 sa):=ha;have rc:Hid (IntIs w0 b 2 (-(B:Int))):=rr;obtain⟨nb,vb,b',⟨c1,c2,-,-⟩,hw,dq,-⟩:=rr;have tu:nb=true:=by
   cases nb
   ·unfold sg at dq;simp at dq;omega
   ·rfl
  subst tu;obtain⟨m,hm,bu,N⟩:=hw;obtain⟨pb,cb,rfl,-,-⟩:=ei hm;have ap:m.length≠0:=by
   intro h0;rw[aC h0] at N;have:b'=0:=N.symm;rw[this] at dq;unfold sg at dq;simp at dq;omega
  have bi:((m.length:Int)==0)=false:=by simp;intro h;exact ap (by rw[h];rfl)
  generalize m.length=j at *;simp only[Nat.reduceAdd] at c2;have pv:Hid (0<B):=s;have rn:Hid (sa.natAbs<2^(32*K)):=pr;have kw:Hid (B<2^(32*K)):=y;clear hm bu N dq ap ha s pr y;go_enter Tryz.func102,Tryz.ntmps102;go_wp2_with fail;refine oW 6 1 [.is (.pointer (some ⟨b,0,none⟩)),.is (.pointer (some ⟨b,0,none⟩)),.is (.pointer (some ⟨b,0,none⟩)),.is (.pointer (some ⟨b,0,none⟩)),.is (.pointer (some ⟨b,0,none⟩)),.is (.pointer (some ⟨b,0,none⟩))] [some 27,some 28,some 29,some 30,some 31,some 32] ?_;intro A hA;simp only[eY,Act.put,aA,aI,aJ] at hA;subst hA;refine⟨?_,?_⟩
  ·skip
   refine ai rfl ?a1 (ai rfl ?a6 (ai rfl ?a7 (ai rfl ?a8 (ai rfl ?b0 (ai rfl ?o1_5 (Eaches.nil))))))
   case a1|a6|a7|a8|b0|o1_5=>
    exact oV
  intro wa ga hH;clear hH;refine wpAny_ready (rs:=[6]) dV eO ?_;refine AllReady.cons rfl (fun K hK=> ?_) AllReady.nil;go_simp;go_wp2_with (go_at_call 66;refine dS (d.out wa ga) ?_;intro e w1 hs;have ht:=hs;obtain⟨rfl,-,-,-⟩:=hs);refine wpAny_done dV ?_ _;have hs:=SetTo.after X ga ht;have dk:=SetTo.keep rb.out hs rc.out X (Or.inr (Or.inr dT));obtain⟨-,hg,-,sd⟩:=hs;have cz:b<w1.heap.size:=ad X hg.size;have lg:Hid (∀ w,G w1 w→_):=fun w g=>lc.out w (ad cz g.size) (dk.G cz g);have ra:Hid (IntIs w1 b 0 (-sa)):=sd;have re:Hid (IntIs w1 b 2 (-(B:Int))):=dk;clear d lc rb rc dk sd c1 c2 bi ht ga;go_wp2_with fail;refine oW 6 1 [.is (.pointer (some ⟨b,0,none⟩)),.is (.pointer (some ⟨b,0,none⟩)),.is (.pointer (some ⟨b,2,none⟩)),.is (.pointer (some ⟨b,0,none⟩)),.is (.pointer (some ⟨b,0,none⟩)),.is (.pointer (some ⟨b,2,none⟩))] [some 34,some 35,some 36,some 37,some 38,some 39] ?_;intro A hA;simp only[eY,Act.put,aA,aI,aJ] at hA;subst hA;refine⟨?_,?_⟩
  ·skip
   refine ai rfl ?b1 (ai rfl ?b2 (ai rfl ?b3 (ai rfl ?b4 (ai rfl ?b5 (ai rfl ?o2_5 (Eaches.nil))))))
   case b1|b2|b3|b4|b5|o2_5=>
    exact oV
  intro wb gb hH;clear hH;refine wpAny_ready (rs:=[6]) dV eO ?_;refine AllReady.cons rfl (fun K hK=> ?_) AllReady.nil;go_simp;go_wp2_with (go_at_call 66;refine dS (lg.out wb gb) ?_;intro e w hs;have ht:=hs;obtain⟨rfl,-,-,-⟩:=hs);refine wpAny_done dV ?_ _;have hs:=SetTo.after cz gb ht;have ts:=SetTo.keep re.out hs ra.out cz (Or.inr (Or.inl dT));obtain⟨-,hh,-,tp⟩:=hs;have hb:b<w.heap.size:=ad cz hh.size;have c:Hid (GX b w0 w):=GX.trans hg hh;clear lg ra re hg hh X cz ht gb;obtain⟨n,va,A,ia,sy,ea,Y⟩:=ts;obtain⟨n2,vb,D,ib,sz,eb,so⟩:=tp;have tt:n2=false:=by
   cases n2
   ·rfl
   ·have h1:=so rfl;unfold sg at eb;simp at eb;omega
  subst tt;have tg:D=B:=by unfold sg at eb;simp at eb;omega
  subst tg;have ii:A=sa.natAbs:=by have h1:=gU ea;rw[Int.natAbs_neg] at h1;exact h1
  have cs:Hid (sg n (A/Nat.gcd A D)=pn):=by
   show sg n (A/Nat.gcd A D)=pn;rw[q0N,ea,sq,← ii]
  have cn:Hid (D/Nat.gcd A D=pd):=by show D/Nat.gcd A D=pd;rw[sp,← ii]
  clear sq sp;have gm:A<2^(32*K):=by rw[ii];exact rn.out
  have y:=kw.out;have s:=pv.out;have h:RA w b n va A vb D:=⟨ia,sy,ib,sz⟩;clear ia sy ib sz ea eb so ii rn kw pv
 all_goals
  have o:Hid (RA w b n va A vb D):=h;obtain⟨⟨c1,c2,f1,f2⟩,na,⟨c3,c4,f3,f4⟩,nb⟩:=h;obtain⟨l,hl,he,ao⟩:=na;obtain⟨m,hm,bu,N⟩:=nb;obtain⟨pa,ca,rfl,io,-⟩:=ei hl;obtain⟨pb,cb,rfl,it,hr⟩:=ei hm;have ap:m.length≠0:=by
   intro h0;rw[aC h0] at N;have:D=0:=N.symm;omega
  have bi:((m.length:Int)==0)=false:=by simp;intro h;exact ap (by rw[h];rfl)
  by_cases an:A=0
  ·have cd:l.length=0:=by
    rw[an] at ao;rw[(eX he).1 ao];rfl
   have hn:n=false:=by
    cases n
    ·rfl
    ·exact absurd an (Y rfl)
   subst hn an;have ms:Hid (pn=0):=by show pn=0;rw[← cs.out,Nat.zero_div];rfl
   have mv:Hid (pd=1):=by show pd=1;rw[← cn.out,Nat.gcd_zero_left,Nat.div_self s]
   have HS:Hid (Calls Tryz.prog 103 #[.pointer (some ⟨b,2,none⟩),.int .i64 1] w (SetTo w b 2 1)):=qF w b 2 1 D dT hb (o.out.is Y).2;have tf:Hid (IntIs w b 0 0):=(o.out.is Y).1;have ih:Hid (IntIs w b 2 D):=(o.out.is Y).2;rw[cd] at c2;generalize m.length=j at *;clear hl hm he bu ao N it io ap hr cd f1 f2 f3 f4;go_wp2_with fail;refine dS HS.out ?_;intro e w2 hs;have hk:=SetTo.keep ih.out hs tf.out hb (Or.inr (Or.inl dT));obtain⟨rfl,h1,-,h2⟩:=hs;go_wp2_with fail;go_ret;exact⟨rfl,GX.trans c.out h1,by rw[ms.out];exact hk,by rw[mv.out];exact h2⟩
  ·have cd:l.length≠0:=by
    intro h0;rw[aC h0] at ao;exact an ao.symm
   have lx:((l.length:Int)==0)=false:=by simp;intro h;exact cd (by rw[h];rfl)
   obtain⟨bb,ob,tv,ll,ci⟩:=hr 0 dT;subst tv;rw[aP] at ci;have dr:Hid (A≠0):=an;have pu:Hid (0<D):=s;have hy:Hid (A<2^(32*K)):=gm;have hz:Hid (D<2^(32*K)):=y;have ul:Hid (n=true→A≠0):=Y;have ps:=dW bu.1 0;have hx:((m.getD 0 0:Nat):Int)≤4294967295:=by omega
   by_cases dl:m.length=1
   case' pos=>
    have oy:m.getD 0 0=D:=by
     obtain⟨x,rfl⟩:=List.length_eq_one_iff.1 dl;rw[fi] at N;simpa using N
    rw[oy] at ci hx;rw[dl] at c4 bi o;by_cases cx:D=1
    case pos=>
     subst cx;have HR:=hi9 (o.out.is Y);have ms:Hid (pn=sg n A):=by show pn=sg n A;rw[← cs.out,du,dD]
     have mv:Hid (pd=1):=by show pd=1;rw[← cn.out,du,dD]
     generalize l.length=i at *;clear hl hm he bu ao N it io ap hr cd f1 f2 f3 f4 gm y s Y ps dl oy an;go_wp2_with fail;go_ret;exact⟨rfl,c.out,by rw[ms.out,mv.out];exact HR.out⟩
    have rq:((D:Int)==1)=false:=by simp;omega
    generalize l.length=i at *;clear hl hm he bu ao N it io ap hr cd f1 f2 f3 f4 gm y s Y ps dl oy an cx;go_wp2_with fail;clear ci bi rq lx c1 c3 ll hx;obtain⟨vb,hw⟩:∃ vb,vb=Value.slice (some ⟨bb,ob,none⟩) 1 cb:=⟨_,rfl⟩
   case' neg=>
    have sk:((m.length:Int)==1)=false:=by simp;intro h;exact dl dT
    generalize l.length=i at *;generalize m.length=j at *;clear hl hm he bu ao N it io ap hr cd f1 f2 f3 f4 gm y s Y ps dl hx ci an;go_wp2_with fail;clear bi sk lx c1 c3 ll;obtain⟨vb,hw⟩:∃ vb,vb=Value.slice (some ⟨bb,ob,none⟩) j cb:=⟨_,rfl⟩
   all_goals
    as_aux_lemma=>
     obtain⟨va,st⟩:∃ va,va=Value.slice pa i ca:=⟨_,rfl⟩;rw[← hw] at o ⊢;rw[← st] at o;clear st hw;clear c2 c4;refine dS (iQ w _ D K dT o.out.nb hz.out (by have:=pu.out;omega)) ?_;rintro e w1 ⟨k,rfl,ox,bz⟩;have rh:Hid (gW D k):=ox;have al:Hid (RA w1 b n va A vb D):=o.out.grow hb bz;have up:k<32*K:=(aY (by omega:1<2)).1 (aG (gO (by have:=pu.out;omega) ox.1) hz.out);have uo:(k:Int)≤9600000:=by omega
     have d1:=al.out.a.2.1;have d3:=al.out.b.2.1;simp only[az,Nat.reduceAdd] at d1 d3;have rp:=hi9 (iQ w1 _ A K dT al.out.na hy.out dr.out);clear ox;go_wp2_with fail;refine dS rp.out ?_;rintro e w2 ⟨k2,rfl,ov,ol⟩;have rf:Hid (gW A k2):=ov;have uh:k2<32*K:=(aY (by omega:1<2)).1 (aG (gO dr.out ov.1) hy.out);have uf:(k2:Int)≤9600000:=by omega
     have E:Hid (RA w2 b n va A vb D):=al.out.grow (G.lt bz hb) ol;have hd:=aa bz ol;clear ov d1 d3 bz ol al rp;have d1:=E.out.a.2.1;have d3:=E.out.b.2.1;simp only[az,Nat.reduceAdd] at d1 d3;obtain⟨C,sh,lm⟩:∃ C:Nat,(if k2<k then (k2:Int) else (k:Int))=C∧C=min k k2:=by
      by_cases hk:k2<k
      ·exact⟨k2,by rw[if_pos hk],by omega⟩
      ·exact⟨k,by rw[if_neg hk],by omega⟩
     have uk:Hid (C=min k k2):=lm;have si:(C:Int)≤9600000:=by omega
     have sj:C≤k:=by omega
     have fs:Hid (A=A/2^C*2^C∧D=D/2^C*2^C):=by
      have h1:=rf.out.1;have h2:=rh.out.1;have h3:2^C∣A:=Nat.dvd_trans (Nat.pow_dvd_pow 2 dT) (Nat.dvd_of_mod_eq_zero h1);have h4:2^C∣D:=Nat.dvd_trans (Nat.pow_dvd_pow 2 sj) (Nat.dvd_of_mod_eq_zero h2);exact⟨(Nat.div_mul_cancel h3).symm,(Nat.div_mul_cancel h4).symm⟩
     have cr:Hid (A/2^C%2=1∨k-C=0):=by
      show A/2^C%2=1∨k-C=0;by_cases hk:k2<k
      ·have e:C=k2:=by omega
       rw[e];exact Or.inl rf.out.2
      ·exact Or.inr dT
     have gg:Hid (gW (D/2^C) (k-C)):=by
      have h5:=fs.out.2;obtain⟨h6,h7⟩:=rh.out;have e:2^k=2^C*2^(k-C):=by rw[← ah];congr 1;omega
      constructor
      ·rw[e,Nat.mod_mul] at h6;have:2^C*(D/2^C%2^(k-C))=0:=by omega
       rcases Nat.mul_eq_zero.1 this with h|h
       ·exact absurd h (Nat.pos_iff_ne_zero.1 (ae _))
       ·exact h
      ·rw[e,← bL] at h7;exact h7
     have nd:=E.out.a.2.2.2;have ng:=E.out.b.2.2.2;simp only[az,Nat.reduceAdd] at nd ng;clear lm;by_cases ho:0<C
     case' pos=>
      have cc:decide (0<C)=true:=by simpa using ho
      have rl:Hid (Calls Tryz.prog 157 #[va,.int .u64 (C:Int)] w2 (ef w2 (A/2^C))):=fL w2 va A C K dT dT E.out.na hy.out;clear ho;go_wp2_with fail;refine dS rl.out ?_;rintro e w3 ⟨ur,rfl,jj,pc⟩;obtain⟨p3,k3,am,rfl⟩:=iN pc;have hq:=E.out.grow (G.lt hd hb) jj;have fv:Hid (RA (w3.setCell ⟨b,1,none⟩ (Value.slice p3 k3 am)) b n (Value.slice p3 k3 am) (A/2^C) vb D):=RA.setA hq pc;have la:Hid (GX b w (w3.setCell ⟨b,1,none⟩ (Value.slice p3 k3 am))):=GX.set (GX.of (aa hd jj)) (Value.slice p3 k3 am);have ru:b<(w3.setCell ⟨b,1,none⟩ (Value.slice p3 k3 am)).heap.size:=by have:=G.lt (aa hd jj) hb;simpa [World.setCell] using this
      have e1:=hq.a.2.1;have U:=hq.a.2.2.2;have e3:=hq.b.2.1;simp only[az,Nat.reduceAdd] at e1 U e3;clear hq pc d1 d3 nd ng jj;go_wp2_with fail;clear e1 U e3 E rl;generalize w3.setCell ⟨b,1,none⟩ (Value.slice p3 k3 am)=w4 at *;have ih:Hid (Calls Tryz.prog 157 #[vb,.int .u64 (C:Int)] w4 (ef w4 (D/2^C))):=fL w4 vb D C K dT dT fv.out.nb hz.out;refine dS ih.out ?_;rintro e w5 ⟨us,rfl,jp,pi⟩;obtain⟨p5,k5,bq,rfl⟩:=iN pi;have ks:=fv.out.grow ru jp;have F:Hid (RA (w5.setCell ⟨b,3,none⟩ (Value.slice p5 k5 bq)) b n (Value.slice p3 k3 am) (A/2^C) (Value.slice p5 k5 bq) (D/2^C)):=RA.setB ks pi;have ek:Hid (GX b w (w5.setCell ⟨b,3,none⟩ (Value.slice p5 k5 bq))):=GX.set (GX.trans la.out (GX.of jp)) (Value.slice p5 k5 bq);have oa:b<(w5.setCell ⟨b,3,none⟩ (Value.slice p5 k5 bq)).heap.size:=by have:=G.lt jp ru;simpa [World.setCell] using this
      have e3:=ks.b.2.1;have W:=ks.b.2.2.2;simp only[Nat.reduceAdd] at e3 W;have tw:IntKind.u64.wrap ((k:Int)-C)=((k-C:Nat):Int):=by rw[IntKind.wrap_u64];omega
      clear ks pi jp fv la ih;go_wp2_with fail;clear e3 W tw sh cc;generalize w5.setCell ⟨b,3,none⟩ (Value.slice p5 k5 bq)=w6 at *;obtain⟨R,bl⟩:∃ R,R=Value.slice p3 k3 am:=⟨_,rfl⟩;obtain⟨Z,S⟩:∃ Z,Z=Value.slice p5 k5 bq:=⟨_,rfl⟩;rw[← bl,← S] at F;rw[← S];clear bl S
     case' neg=>
      obtain rfl:C=0:=by omega
      have cc:decide (0<0)=false:=rfl;have F:Hid (RA w2 b n va (A/2^0) vb (D/2^0)):=by rw[bW,dD,dD];exact E.out
      have ek:Hid (GX b w w2):=GX.of hd;have oa:=G.lt hd hb;clear E ho;go_wp2_with fail;clear d1 d3 nd ng sh cc si;obtain⟨C,ls⟩:∃ C,C=0:=⟨_,rfl⟩;have li:Hid (A/2^C%2=1∨k-C=0):=by rw[ls];exact cr.out
      clear cr;have cr:Hid (A/2^C%2=1∨k-C=0):=li.out;clear li;rw[← ls] at F fs gg;obtain⟨R,bl⟩:∃ R,R=va:=⟨_,rfl⟩;obtain⟨Z,S⟩:∃ Z,Z=vb:=⟨_,rfl⟩;rw[← bl,← S] at F;rw[← S];have lw:k=k-C:=by omega
      rw[lw];clear bl S lw
     all_goals
      as_aux_lemma=>
       obtain⟨J,nl⟩:∃ J,J=A/2^C:=⟨_,rfl⟩;obtain⟨B1,cx⟩:∃ B1,B1=D/2^C:=⟨_,rfl⟩;obtain⟨k1,dk⟩:∃ k1,k1=k-C:=⟨_,rfl⟩;rw[← nl] at F fs cr;rw[← cx] at F fs gg;rw[← dk] at cr gg ⊢;obtain⟨hA,hB⟩:=fs.out;have ue:k1≤32*K:=by omega
       have ds:Hid (J<2^(32*K)∧B1<2^(32*K)):=by
        rw[nl,cx];exact⟨aG (bh _ _) hy.out,aG (bh _ _) hz.out⟩
       clear nl cx dk;obtain⟨O,hO⟩:∃ O,O=B1/2^k1:=⟨_,rfl⟩;have hc:B1=O*2^k1:=by rw[hO];exact(Nat.div_mul_cancel (Nat.dvd_of_mod_eq_zero gg.out.1)).symm
       have th:O%2=1:=by rw[hO];exact gg.out.2
       have rk:Hid (O<2^(32*K)):=by rw[hO];exact aG (bh _ _) ds.out.2
       have nc:=hi9 (fL _ _ B1 k1 K dT dT F.out.nb ds.out.2);rw[← hO] at nc;have sc:Nat.gcd J B1=Nat.gcd J O:=by
        rcases cr.out with h|h
        ·rw[hc];exact q0r k1 h
        ·rw[hc,h,bW,bw]
       have ly:Hid (Nat.gcd A D=Nat.gcd J O*2^C):=by show Nat.gcd A D=Nat.gcd J O*2^C;rw[hA,hB,q0s,sc]
       have np:0<O:=by omega
       clear hO sc;refine dS nc.out ?_;rintro e w7 ⟨tx,rfl,jx,pm⟩;have L:Hid (RA w7 b n R J Z B1):=F.out.grow oa jx;have em:Hid (GX b w w7):=GX.trans ek.out (GX.of jx);have oi:=G.lt jx oa;have td:Hid (Num w7 tx O):=pm;obtain⟨b7,o7,j7,c7,d7,rfl,rv,tl,um,pp⟩:=fo pm np;have ua:(d7:Int)≤4294967295:=by omega
       have e1:=L.out.a.2.1;have e3:=L.out.b.2.1;have U:=L.out.a.2.2.2;have W:=L.out.b.2.2.2;simp only[az,Nat.reduceAdd] at e1 e3 U W;clear jx pm F ek nc;have ec:Hid (A=J*2^C):=hA;have px:Hid (D=B1*2^C):=hB;have rj:Hid (0<O):=np;clear hA hB hc th np;rcases pp with ⟨hj,bv⟩|⟨tq,ti⟩
       case' inl=>
        have se:((j7:Int)==1)=true:=by simp;omega
        have uc:(0:Int)<j7:=by omega
        by_cases hf:d7=1
        case pos=>
         subst hf;have bz:Nat.gcd A D=2^C:=by rw[ly.out,← bv,du,aW]
         have bn:Hid (A/Nat.gcd A D=J∧D/Nat.gcd A D=B1):=by
          rw[bz];exact⟨by rw[ec.out];exact cD _ (ae _),by rw[px.out];exact cD _ (ae _)⟩
         have d:Hid (n=true→J≠0):=fun h h1=>dr.out (by rw[ec.out,h1,bJ]);clear bz hj bv;go_wp2_with fail;go_ret;exact⟨rfl,GX.trans c.out em.out,ku cs.out cn.out (by rw[bn.out.1,bn.out.2];exact L.out.is d.out)⟩
        have sb:((d7:Int)==1)=false:=by simp;omega
        clear hf hj bv
       case' inr=>
        have se:((j7:Int)==1)=false:=by simp;omega
        clear tq ti
       all_goals
        as_aux_lemma=>
         have lk:0<J:=by
          rcases bK J with h|h
          ·exact absurd (ec.out.trans (by rw[h,bJ])) dr.out
          ·exact h
         have pz:Hid (Calls Tryz.prog 158 #[R,.slice (some ⟨b7,o7,none⟩) j7 c7] w7 (ef w7 (Nat.gcd J O))):=im w7 R _ J O K hK L.out.na td.out lk ds.out.1 rk.out;clear lk;go_wp2_with fail;refine dS pz.out ?_;rintro e w8 ⟨ty,rfl,kk,kr⟩;have kq:0<Nat.gcd J O:=cO _ rj.out;obtain⟨g,oo⟩:∃ g,g=Nat.gcd J O:=⟨_,rfl⟩;have qt:Hid (g∣J∧g∣O):=by rw[oo];exact⟨cC _ _,bQ _ _⟩
         rw[← oo] at kr kq ly;have I:Hid (RA w8 b n R J Z B1):=L.out.grow oi kk;have ep:Hid (GX b w w8):=GX.trans em.out (GX.of kk);have oj:=G.lt kk oi;have ri:Hid (Num w8 ty g):=kr;have mm:Hid (0<g):=kq;have bn:Hid (A/Nat.gcd A D=J/g∧D/Nat.gcd A D=B1/g):=by
          rw[ly.out,ec.out,px.out];exact⟨cf _ _ (ae _),cf _ _ (ae _)⟩
         have kv:Hid (J≠0):=fun h1=>dr.out (by rw[ec.out,h1,bJ]);have qs:Hid (g<2^(32*K)):=aG (Nat.le_of_dvd rj.out qt.out.2) rk.out;obtain⟨b8,o8,j8,c8,d8,rfl,ry,tm,un,pp⟩:=fo kr kq;have ub:(d8:Int)≤4294967295:=by omega
         clear e1 e3 U W kr kq oo kk L em pz oi tl rv;have e1:=I.out.a.2.1;have e3:=I.out.b.2.1;have U:=I.out.a.2.2.2;have W:=I.out.b.2.2.2;simp only[az,Nat.reduceAdd] at e1 e3 U W;rcases pp with ⟨hj,bv⟩|⟨tr,tj⟩
         case' inl=>
          have sf:((j8:Int)==1)=true:=by simp;omega
          have ud:(0:Int)<j8:=by omega
          by_cases hf:d8=1
          case pos=>
           subst hf;have tc:Hid (g=1):=bv.symm;clear hj bv;go_wp2_with fail;go_ret;exact⟨rfl,GX.trans c.out ep.out,ku cs.out cn.out (by rw[bn.out.1,bn.out.2,tc.out,dD,dD];exact I.out.is (fun _=>kv.out))⟩
          have sb:((d8:Int)==1)=false:=by simp;omega
          clear hf hj bv
         case' inr=>
          have sf:((j8:Int)==1)=false:=by simp;omega
          clear tr tj
         all_goals
          as_aux_lemma=>
           have qa:Hid (Calls Tryz.prog 159 #[R,.slice (some ⟨b8,o8,none⟩) j8 c8] w8 (gv w8 (J/g) (J%g))):=pE w8 R _ J g K hK I.out.na ri.out ds.out.1 qs.out mm.out;have qb:Hid (∀ w9,G w8 w9→Calls Tryz.prog 159 #[Z,.slice (some ⟨b8,o8,none⟩) j8 c8] w9 (gv w9 (B1/g) (B1%g))):=fun w9 k=>pE w9 Z _ B1 g K hK (I.out.nb.G k) (ri.out.G k) ds.out.2 qs.out mm.out;go_wp2_with fail;refine dS qa.out ?_;rintro e w9 ⟨ut,uq,rfl,nA,po,-⟩;obtain⟨p9,k9,c9,rfl⟩:=iN po;have ce:Hid (RA w9 b n R J Z B1):=I.out.grow oj nA;have lb:Hid (GX b w w9):=GX.trans ep.out (GX.of nA);have tk:=G.lt nA oj;have te:Hid (Num w9 (.slice p9 k9 c9) (J/g)):=po;have qq:=hi9 (qb.out w9 nA);clear e1 e3 U W nA po I ep qa qb tm oj ry;have e1:=ce.out.a.2.1;have e3:=ce.out.b.2.1;simp only[az,Nat.reduceAdd] at e1 e3;go_wp2_with fail;refine dS qq.out ?_;rintro e tb ⟨uj,ui,rfl,cl,hp,-⟩;obtain⟨ta,su,c10,rfl⟩:=iN hp;have M:=ce.out.grow tk cl;have mp:Hid (GX b w tb):=GX.trans lb.out (GX.of cl);have rm:Hid (RA ((tb.setCell ⟨b,1,none⟩ (.slice p9 k9 c9)).setCell ⟨b,3,none⟩ (.slice ta su c10)) b n (.slice p9 k9 c9) (J/g) (.slice ta su c10) (B1/g)):=
            RA.setB (RA.setA M (te.out.G cl)) (num_other hp M.a.2.1 (fun z=>gj M.na _ z))
           have d:Hid (n=true→J/g≠0):=fun _=>Nat.pos_iff_ne_zero.1 (Nat.div_pos (Nat.le_of_dvd (Nat.pos_of_ne_zero kv.out) qt.out.1) mm.out);clear e1 e3;have e1:=M.a.2.1;have e3:=M.b.2.1;have U:=M.a.2.2.2;have W:=M.b.2.2.2;simp only[az,Nat.reduceAdd] at e1 e3 U W;clear M cl hp ce lb qq;go_wp2_with fail;go_ret;exact⟨rfl,GX.trans c.out (GX.set (GX.set mp.out _) _),ku cs.out cn.out (by rw[bn.out.1,bn.out.2];exact rm.out.is d.out)⟩
theorem q1E (w:World) (b:Nat) (n:Bool) (va I:Value) (A B K:Nat) (J:K≤300000) (C:A<2^(32*K)) (E:B<2^(32*K)) (D:0<B) (F:n=true→A≠0) (hb:b<w.heap.size) (h:RA w b n va A I B):
  Calls Tryz.prog 102 #[.pointer (some ⟨b,0,none⟩)] w (NormTo w b (sg n (A/Nat.gcd A B)) (B/Nat.gcd A B)):=
 lJ w b _ _ K J hb (Or.inl ⟨n,va,I,A,B,h,C,E,D,F,rfl,rfl⟩)
theorem mI (w0:World) (b:Nat) (sa:Int) (B K:Nat) (I:K≤300000) (F:sa.natAbs<2^(32*K)) (C:B<2^(32*K)) (A:0<B) (E:b<w0.heap.size) (J:IntIs w0 b 0 sa) (D:IntIs w0 b 2 (-(B:Int))):
  Calls Tryz.prog 102 #[.pointer (some ⟨b,0,none⟩)] w0 (NormTo w0 b (Int.tdiv (-sa) (Nat.gcd sa.natAbs B:Nat)) (B/Nat.gcd sa.natAbs B)):=
 lJ w0 b _ _ K I E (Or.inr ⟨sa,B,F,C,A,J,D,rfl,rfl⟩)
end Go.Proofs.YtfnkkkcojnffdaaGreatDoor
