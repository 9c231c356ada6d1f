/- What is proved here: contracts of the reference's big numbers: div, all its ways, over this seat's translation.
What is proved here: contracts of the reference's big numbers: common (the greatest divisor), over this seat's translation. -/
import Derived.Test.YtfnkkkcojnffdaaGreatDoorC1
import Derived.Test.YtfnkkkcojnffdaaGreatDoorC3
import Derived.Test.YtfnkkkcojnffdaaGreatDoorC22
import Derived.Test.YtfnkkkcojnffdaaGreatDoorC24
import Derived.Test.YtfnkkkcojnffdaaGreatDoorC8
namespace Go.Proofs.YtfnkkkcojnffdaaGreatDoor
open Go.ChangeShapes Go.WideShapes Go.ChangeAt Go.RowKit
open BN
theorem kj {l:List Nat} (h:canon l) {k:Nat} (hv:2^(32*k)≤val l):k<l.length:=by
 rcases bg k l.length with h1|h1
 ·exact h1
 ·have h2:=eo h.1;have h3:2^(32*l.length)≤2^(32*k):=ak dT dT;omega
set_option maxRecDepth 10000 in
theorem pF (w:World) (va U:Value) (a b K:Nat) (Z:K≤300000) (L:Num w va a) (hb:Num w U b) (B:a<2^(32*K)) (E:b<2^(32*K)) (A:a<b):
  Calls Tryz.prog 159 #[va,U] w (gv w (a/b) (a%b)):=by
 have D:=hi9 (gN w _ _ a b K dT L hb B E);have J:Hid (∀ I,G w I→_):=fun I g=>kK I _ a K dT (L.G g) B;obtain⟨m,S,M,C⟩:=hb;have O:m.length≠0:=by
  intro h;have:=aC h;rw[this] at C;simp [val] at C;omega
 obtain⟨d,Y,rfl,X,-⟩:=ei S;have c:decide (cmpV a b<0)=true:=by rw[decide_eq_true_iff];unfold cmpV;rw[if_pos A];omega
 have h1:a/b=0:=aN A;have h2:a%b=a:=aM A;rw[h1,h2];generalize cmpV a b=cv at *;generalize m.length=n at *;have t2:((n:Int)==0)=false:=by simp;omega
 clear S M C A E B L h1 h2 O;go_enter Tryz.func159,Tryz.ntmps159;go_wp2_with fail;refine dS D.out ?_;rintro W I ⟨rfl,F⟩;go_wp2_with fail;refine dS (J.out I F) ?_;rintro W i ⟨v2,rfl,N,R⟩;go_wp2_with fail
 go_ret2
 exact⟨_,_,rfl,aa F N,fh _ _ _,R⟩
set_option maxRecDepth 10000 in
theorem q0m (w:World) (va vb:Value) (a b:Nat) (U:Num w va a) (hb:Num w vb b) (B:a<2^64) (X:b≤a) (W:0<b):
  Calls Tryz.prog 159 #[va,vb] w (gv w (a/b) (a%b)):=by
 have L:a/b<2^64:=aG (bh _ _) B;have N:a%b<2^64:=aG (Nat.mod_le _ _) B;have F:=hi9 (gN w _ _ a b 2 dT U hb B dT);have I:Hid (∀ A,G w A→_):=fun A g=>gJ A _ a (U.G g);have J:Hid (∀ A,G w A→_):=fun A g=>gJ A _ b (hb.G g);have HQ:Hid (∀ A,_):=fun A=>fM A (a/b) L;have HR:Hid (∀ A,_):=fun A=>fM A (a%b) N;rw[aM (show a<2^64 from B)] at I;rw[aM (show b<2^64 by omega)] at J;obtain⟨l,hl,K,O⟩:=U;have d:=dX K (k:=2) (by rw[O];exact B);obtain⟨m,hm,Y,E⟩:=hb;have o:m.length≠0:=by
  intro h;have:=aC h;rw[this] at E;simp [val] at E;omega
 obtain⟨pa,ca,rfl,bi,-⟩:=ei hl;obtain⟨pb,cb,rfl,bl,-⟩:=ei hm;have hc:decide (cmpV a b<0)=false:=by rw[decide_eq_false_iff_not];unfold cmpV;rw[if_neg dT];split<;>omega
 generalize cmpV a b=cv at *;generalize m.length=n at *;generalize l.length=j at *;have t2:((n:Int)==0)=false:=by simp;omega
 have t1:decide ((j:Int)≤2)=true:=by simp;omega
 have am:(a:Int)≤18446744073709551615:=by omega
 have ao:(b:Int)≤18446744073709551615:=by omega
 have ap:((b:Int)==0)=false:=by simp;omega
 have an:(1:Int)≤b:=by omega
 have y:b≠0:=by omega
 have Z:IntKind.u64.wrap ((a:Int)/b)=((a/b:Nat):Int):=by rw[IntKind.wrap_u64,← dm];generalize a/b=q at *;omega
 have i:(a:Int)%b=((a%b:Nat):Int):=by rw[← cT]
 have al:(a:Int).tmod b=((a%b:Nat):Int):=by rw[df dT];exact i
 have e:IntKind.u64.wrap ((a:Int).tdiv b)=((a/b:Nat):Int):=by rw[Int.tdiv_eq_ediv_of_nonneg dT];exact Z
 generalize a/b=dq at *;generalize a%b=dr at *;clear hm Y E X B o hl K O d W L N;go_enter Tryz.func159,Tryz.ntmps159;go_wp2_with fail;refine dS F.out ?_;rintro R A ⟨rfl,C⟩;go_wp2_with fail;refine dS (I.out A C) ?_;rintro R w2 ⟨rfl,D⟩;go_wp2_with fail;refine dS (J.out w2 (aa C D)) ?_;rintro R w3 ⟨rfl,M⟩;have S:=aa C (aa D M);clear C D M;go_wp2_with fail
 go_region_with
  (first
   |(go_at_call_of 151 dq;refine dS (HQ.out _) ?_;rintro R wn ⟨vn,rfl,c,s⟩)
   |(go_at_call_of 151 dr;refine dS (HR.out _) ?_;rintro R wn ⟨vn,rfl,c,s⟩))
 all_goals
  go_wp2_with fail
  go_ret2
  exact⟨_,_,rfl,aa S ny,(by first|assumption|exact Num.G kV kV),(by first|assumption|exact Num.G kV kV)⟩
theorem jH (w:World) (d:Nat) (e:TypeId) (B:d<2^32):Sl (w.alloc (.cells #[.int .u32 (d:Int)] e)) (.slice (some ⟨w.heap.size,0,none⟩) 1 1) [d]:=by
 refine⟨fun x A=> ?_,Or.inr ⟨w.heap.size,0,1,rfl,ay _,by simp,fun i hi=> ?_⟩⟩
 ·simp at A;rw[A];exact B
 ·rw[az,World.cell?_alloc_at _ _ _ _ rfl];have:i=0:=by simp at hi;omega
  subst this;rfl
set_option maxRecDepth 10000 in
theorem pG (w:World) (va vb:Value) (a b K:Nat) (hK:K≤300000) (d:Num w va a) (hb:Num w vb b) (B:a<2^(32*K)) (i:b≤a) (D:2^64≤a) (I:0<b) (J:b<2^32):
  Calls Tryz.prog 159 #[va,vb] w (gv w (a/b) (a%b)):=by
 have Y:a%b<2^32:=ad (aU _ I) dT;have R:=hi9 (gN w _ _ a b K dT d hb B dT);have c:Hid (∀ F,G w F→_):=fun F g=>nO F _ a b K dT I J (d.G g) B;have S:Hid (∀ F,_):=fun F=>trim_c _ _ _ (jH F (a%b) 149 Y) eO;rw[show val [a%b]=a%b from by simp [val]] at S;obtain⟨l,hl,L,O⟩:=d;have y:=kj L (k:=2) (by rw[O];exact D);have e:=dX L (k:=K) (by rw[O];exact B);obtain⟨m,hm,W,A⟩:=hb;have N:m.length=1:=by
  have h1:=dX W (k:=1) (by rw[A];exact J);have h2:m.length≠0:=by
   intro h;have:=aC h;rw[this] at A;simp [val] at A;omega
  omega
 obtain⟨pa,ca,rfl,bi,-⟩:=ei hl;obtain⟨pb,cb,rfl,bl,Z⟩:=ei hm;obtain⟨b0,o0,rfl,U,C⟩:=Z 0 dT;have X:m.getD 0 0=b:=by
  obtain⟨x,rfl⟩:=List.length_eq_one_iff.1 N;rw[fi] at A;simpa using A
 rw[X] at C;rw[aP] at C;have hc:decide (cmpV a b<0)=false:=by rw[decide_eq_false_iff_not];unfold cmpV;rw[if_neg dT];split<;>omega
 generalize cmpV a b=cv at *;rw[N] at *;generalize l.length=j at *;have t1:decide ((j:Int)≤2)=false:=by simp;omega
 have bn:(j:Int)≤300000:=by omega
 have ao:(b:Int)≤4294967295:=by omega
 have an:((a%b:Nat):Int)≤4294967295:=by omega
 generalize a/b=dq at *;generalize a%b=dr at *;clear hm W A i B N hl L O y I Y X Z D e J;go_enter Tryz.func159,Tryz.ntmps159;go_wp2_with fail;refine dS R.out ?_;rintro e1 F ⟨rfl,M⟩;have ap:=M.cell U C;clear C;go_wp2_with fail;refine dS (c.out F M) ?_;rintro e1 w2 ⟨v2,rfl,o,al⟩;go_wp2_with fail;refine dS (S.out w2) ?_;rintro e1 w3 ⟨v3,rfl,s,am⟩;have E:=aa ((af w2).alloc (.cells #[.int .u32 (dr:Int)] 149)) s;go_wp2_with fail
 go_ret2
 exact⟨_,_,rfl,aa M (aa o E),al.G E,am⟩
/-- Division of the reference's big numbers. -/
theorem pE (w:World) (va E:Value) (a b K:Nat) (J:K≤300000) (I:Num w va a) (hb:Num w E b) (D:a<2^(32*K)) (L:b<2^(32*K)) (F:0<b):
  Calls Tryz.prog 159 #[va,E] w (gv w (a/b) (a%b)):=by
 rcases bg a b with A|A
 ·exact pF w va E a b K J I hb D L A
 ·rcases bg a (2^64) with B|B
  ·exact q0m w va E a b I hb B A F
  ·rcases bg b (2^32) with C|C
   ·exact pG w va E a b K J I hb D A B F C
   ·exact oB w va E a b K J I hb D A B C
/-- The number that a slice of words holds. -/
def numV (w:World):Value→Nat
 | .slice (some a) n _=>val ((List.range n).map fun i=>match w.cell? ⟨a.block,a.off+i,none⟩ with
  |some (.int _ z)=>z.toNat
  |_=>0)
 |_=>0
theorem fm {w:World} {v:Value} {n:Nat} (h:Num w v n):numV w v=n:=by
 obtain⟨l,A,-,rfl⟩:=h;rcases Sl.cases A with ⟨rfl,a,c,rfl⟩|⟨-,b,o,c,rfl,-,-,B⟩
 ·cases a<;>rfl
 ·show val _=val l
  congr 1
  refine List.ext_getElem eO fun i h1 h2=> ?_;rw[List.getElem_map,List.getElem_range];rw[B i h2];simp [List.getD_eq_getElem?_getD,h2]
theorem gcd_swap {X Y:Nat}:Nat.gcd Y (X%Y)=Nat.gcd Y X:=by
 rw[bG Y (X%Y),← dC]
set_option maxRecDepth 10000 in
theorem im (w:World) (va vb:Value) (a b K:Nat) (hK:K≤300000) (ha:Num w va a) (hb:Num w vb b) (he:0<a) (hf:a<2^(32*K)) (hh:b<2^(32*K)):
  Calls Tryz.prog 158 #[va,vb] w (ef w (Nat.gcd a b)):=by
 have HA:=hi9 ha;have HB:=hi9 hb;have hq:=hi9 hf;have hr:=hi9 hh;have hp:Hid (0<a):=he;clear ha hb hf hh he;go_enter Tryz.func158,Tryz.ntmps158;go_wp2_with fail
 go_loopw [0,1] (fun va vb wr=>∃ A B:Nat,Num wr va A∧Num wr vb B∧0<A∧A<2^(32*K)∧B<2^(32*K)∧Nat.gcd A B=Nat.gcd a b∧G w wr) (fun _ vb wr=>numV wr vb)
 case atStart=>exact⟨a,b,HA.out,HB.out,hp.out,hq.out,hr.out,rfl,af _⟩
 case round=>
  obtain⟨A,B,hA,hB,bn,N,O,hg,hG⟩:=hrel;have dq:Hid (Num wr u0 A):=hA;have bi:Hid (Num wr u1 B):=hB;obtain⟨l,hl,L,d⟩:=hB;obtain⟨m,hm,am,ao⟩:=hA;obtain⟨pb,cb,rfl,cr,-⟩:=ei hl;obtain⟨pa,ca,rfl,cn,-⟩:=ei hm;have cs:=dX L (k:=K) (by rw[d];exact O);have cx:=dX am (k:=K) (by rw[ao];exact N);have cl:Hid (Nat.gcd A B=Nat.gcd a b):=hg;have ih:Hid (0<A):=bn;have ii:Hid (A<2^(32*K)):=N;have cz:Hid (B<2^(32*K)):=O;have gg:Hid (0<B→Calls Tryz.prog 159 #[.slice pa m.length ca,.slice pb l.length cb] wr (gv wr (A/B) (A%B))):=fun h=>pE wr _ _ A B K hK dq.out bi.out N O h;by_cases an:2<l.length
  ·have E:0<B:=by
    have:=eN L (by intro e;rw[e] at an;simp at an);have h2:=ae (32*(l.length-1));omega
   have dk:decide ((2:Int)<l.length)=true:=by simp;omega
   have ho:numV wr (.slice pb l.length cb)=B:=fm bi.out;have ht:=hi9 ho;have ci:Hid (0<B):=E;have o:Hid (Nat.gcd B (A%B)=Nat.gcd a b):=gcd_swap.trans ((bG B A).trans cl.out);have gm:Hid (A%B<B):=aU _ E;generalize l.length=j at *;generalize m.length=i at *;clear bn N O hg hl hm L am d ao cr cn cs cx an E ho;go_wp2_with fail;refine dS (gg.out ci.out) ?_;rintro e w2 ⟨v2,v3,rfl,S,fv,ap⟩;have dl:=fm ap;have hc:=hi9 dl;have hw:=hi9 ap;have bl:Hid (Num w2 (.slice pb j cb) B):=bi.out.G S;have F:=aa hG S;clear fv ap dl S;go_wp2_with fail
   go_roundw
   case rel=>exact⟨B,A%B,bl.out,hw.out,ci.out,cz.out,Nat.lt_trans gm.out cz.out,o.out,F⟩
   case measure=>
    have h1:=ht.out;have h2:=hc.out;have h3:=gm.out;rw[h1,h2];exact h3
  ·have dk:decide ((2:Int)<l.length)=false:=by simp;omega
   have D:B<2^64:=by
    have:=eo L.1;rw[d] at this;exact ad this (ak dT dT)
   by_cases c:l.length=0
   ·have E:B=0:=by rw[← d,(eX L).2 (aC c)]
    subst E;have hj:A=Nat.gcd a b:=by rw[← cl.out,cE]
    have hs:=hi9 hj;rw[c];rw[c] at dk;generalize m.length=i at *;clear bn N O hg hl hm L am d ao cr cn cs cx an c hj D;go_wp2_with fail;go_ret;exact⟨_,rfl,hG,by rw[← hs.out];exact dq.out⟩
   ·have io:((l.length:Int)==0)=false:=by simp;intro h;exact c (by rw[h];rfl)
    have E:0<B:=by
     have:=eN L (by intro e;rw[e] at c;exact c rfl);have h2:=ae (32*(l.length-1));omega
    have ci:Hid (0<B):=E;have it:(l.length:Int)≤2:=by omega
    by_cases hk:2<m.length
    ·have hn:decide ((2:Int)<m.length)=true:=by simp;omega
     have o:Hid (Nat.gcd B (A%B)=Nat.gcd a b):=gcd_swap.trans ((bG B A).trans cl.out);have s:Hid (B<18446744073709551616):=D;have y:Hid (A%B<18446744073709551616):=Nat.lt_trans (aU _ E) D;generalize l.length=j at *;generalize m.length=i at *;clear bn N O hg hl hm L am d ao cr cn cs cx an E D hk;go_wp2_with fail;refine dS (gg.out ci.out) ?_;rintro e w2 ⟨v2,v3,rfl,S,fv,ap⟩;have bl:Hid (Num w2 (.slice pb j cb) B):=bi.out.G S;have I:=hi9 (gJ w2 _ B bl.out);have J:Hid (∀ w3,G w2 w3→_):=fun w3 g=>gJ w3 _ (A%B) (ap.G g);rw[aM (show B<2^64 from s.out)] at I;rw[aM (show A%B<2^64 from y.out)] at J;have F:=aa hG S;obtain⟨X0,al⟩:∃ X0,X0=B:=⟨_,rfl⟩;obtain⟨Y0,C⟩:∃ Y0,Y0=A%B:=⟨_,rfl⟩;rw[← C] at J y o;rw[← al] at I s o;have ds:Hid (Nat.gcd X0 Y0=Nat.gcd a b):=o.out;clear fv ap S al C o;go_wp2_with fail;refine dS I.out ?_;rintro e w3 ⟨rfl,U⟩;go_wp2_with fail;refine dS (J.out w3 U) ?_;rintro e w4 ⟨rfl,bz⟩;have bu:=aa F (aa U bz);go_wp2_with fail;clear F U bz I J
     go_loopw [9,10] (fun vx vy wr=>∃ X Y:Nat,vx= .int .u64 X∧vy= .int .u64 Y∧X<18446744073709551616∧Y<18446744073709551616∧Nat.gcd X Y=Nat.gcd a b∧G w wr) (fun _ vy _=>(intOf vy).toNat)
     case atStart=>exact⟨X0,Y0,rfl,rfl,s.out,y.out,ds.out,bu⟩
     case round=>
      obtain⟨X,Y,rfl,rfl,hX,hY,cc,F⟩:=hrel;have M:Hid (Nat.gcd X Y=Nat.gcd a b):=cc;have hx:(X:Int)≤18446744073709551615:=by omega
      have hz:(Y:Int)≤18446744073709551615:=by omega
      clear cc bu;by_cases C:0<Y
      ·have hy:(1:Int)≤Y:=by omega
       have hd:Y≠0:=by omega
       have ia:decide (0<Y)=true:=by simpa using C
       have ib:((Y:Int)==0)=false:=by simp;omega
       obtain⟨Z,hZ,R,bv⟩:∃ Z:Nat,Z=X%Y∧(X:Int)%Y=Z∧Z<Y:=⟨X%Y,rfl,by rw[← cT],aU _ C⟩;have ep:(X:Int).tmod Y=Z:=by rw[df dT];exact R
       have dr:Hid (Nat.gcd Y Z=Nat.gcd a b):=by show Nat.gcd Y Z=Nat.gcd a b;rw[hZ];exact gcd_swap.trans ((bG Y X).trans M.out)
       have ec:Hid (Z<Y):=bv;have eb:Hid (Y<18446744073709551616):=hY;have em:Z<18446744073709551616:=by omega
       clear hZ hX hY bv;go_wp2_with fail;refine ee dV dV ?_;intro W hW;clear hW
       repeat (go_big_quiet_step (fail))
       refine wpQuiet_nil ?_;intro w5 ce;have ek:=aa F ce;clear ce;go_wp2_with fail
       try simp only[R]
       go_roundw
       case rel=>exact⟨Y,Z,rfl,by first|rfl|(rw[R])|(rw[ep]),eb.out,em,dr.out,ek⟩
       case measure=>have:=ec.out;simp only[intOf];omega
      ·obtain rfl:Y=0:=by omega
       have cd:X=Nat.gcd a b:=by rw[← M.out,cE]
       have ea:Hid (X=Nat.gcd a b):=cd;have HW:Hid (∀ w1,_):=fun w1=>fM w1 X hX;clear hX hY cd;go_wp2_with fail;refine dS (HW.out wr) ?_;rintro e w5 ⟨v5,rfl,fs,ga⟩;go_wp2_with fail;go_ret;exact⟨v5,rfl,aa F fs,by rw[← ea.out];exact ga⟩
    ·have hn:decide ((2:Int)<m.length)=false:=by simp;omega
     have bq:A<2^64:=by
      have:=eo am.1;rw[ao] at this;exact ad this (ak dT dT)
     have s:Hid (A<18446744073709551616):=bq;have y:Hid (B<18446744073709551616):=D;have jj:(m.length:Int)≤2:=by omega
     have I:=hi9 (gJ wr _ A dq.out);have J:Hid (∀ w3,G wr w3→_):=fun w3 g=>gJ w3 _ B (bi.out.G g);rw[aM (show A<2^64 from bq)] at I;rw[aM (show B<2^64 from D)] at J;generalize l.length=j at *;generalize m.length=i at *;clear bn N O hg hl hm L am d ao cr cn cs cx an E D hk bq;obtain⟨X0,al⟩:∃ X0,X0=A:=⟨_,rfl⟩;obtain⟨Y0,C⟩:∃ Y0,Y0=B:=⟨_,rfl⟩;have ds:Hid (Nat.gcd X0 Y0=Nat.gcd a b):=by show Nat.gcd X0 Y0=Nat.gcd a b;rw[al,C];exact cl.out
     rw[← C] at J y;rw[← al] at I s;clear al C;go_wp2_with fail;refine dS I.out ?_;rintro e w3 ⟨rfl,U⟩;go_wp2_with fail;refine dS (J.out w3 U) ?_;rintro e w4 ⟨rfl,bz⟩;have bu:=aa hG (aa U bz);go_wp2_with fail;clear U bz I J
     go_loopw [9,10] (fun vx vy wr=>∃ X Y:Nat,vx= .int .u64 X∧vy= .int .u64 Y∧X<18446744073709551616∧Y<18446744073709551616∧Nat.gcd X Y=Nat.gcd a b∧G w wr) (fun _ vy _=>(intOf vy).toNat)
     case atStart=>exact⟨X0,Y0,rfl,rfl,s.out,y.out,ds.out,bu⟩
     case round=>
      obtain⟨X,Y,rfl,rfl,hX,hY,cc,F⟩:=hrel;have M:Hid (Nat.gcd X Y=Nat.gcd a b):=cc;have hx:(X:Int)≤18446744073709551615:=by omega
      have hz:(Y:Int)≤18446744073709551615:=by omega
      clear cc bu;by_cases C:0<Y
      ·have hy:(1:Int)≤Y:=by omega
       have hd:Y≠0:=by omega
       have ia:decide (0<Y)=true:=by simpa using C
       have ib:((Y:Int)==0)=false:=by simp;omega
       obtain⟨Z,hZ,R,bv⟩:∃ Z:Nat,Z=X%Y∧(X:Int)%Y=Z∧Z<Y:=⟨X%Y,rfl,by rw[← cT],aU _ C⟩;have ep:(X:Int).tmod Y=Z:=by rw[df dT];exact R
       have dr:Hid (Nat.gcd Y Z=Nat.gcd a b):=by show Nat.gcd Y Z=Nat.gcd a b;rw[hZ];exact gcd_swap.trans ((bG Y X).trans M.out)
       have ec:Hid (Z<Y):=bv;have eb:Hid (Y<18446744073709551616):=hY;have em:Z<18446744073709551616:=by omega
       clear hZ hX hY bv;go_wp2_with fail;refine ee dV dV ?_;intro W hW;clear hW
       repeat (go_big_quiet_step (fail))
       refine wpQuiet_nil ?_;intro w5 ce;have ek:=aa F ce;clear ce;go_wp2_with fail
       try simp only[R]
       go_roundw
       case rel=>exact⟨Y,Z,rfl,by first|rfl|(rw[R])|(rw[ep]),eb.out,em,dr.out,ek⟩
       case measure=>have:=ec.out;simp only[intOf];omega
      ·obtain rfl:Y=0:=by omega
       have cd:X=Nat.gcd a b:=by rw[← M.out,cE]
       have ea:Hid (X=Nat.gcd a b):=cd;have HW:Hid (∀ w1,_):=fun w1=>fM w1 X hX;clear hX hY cd;go_wp2_with fail;refine dS (HW.out wr) ?_;rintro e w5 ⟨v5,rfl,fs,ga⟩;go_wp2_with fail;go_ret;exact⟨v5,rfl,aa F fs,by rw[← ea.out];exact ga⟩
end Go.Proofs.YtfnkkkcojnffdaaGreatDoor
