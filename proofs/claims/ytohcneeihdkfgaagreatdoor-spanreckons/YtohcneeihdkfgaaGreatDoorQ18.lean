/- What is proved here: contracts of the reference's big numbers: div, all its ways, over this seat's translation.
What is proved here: contracts of the reference's big numbers: common (the greatest divisor), over this seat's translation. -/
import Derived.Test.YtohcneeihdkfgaaGreatDoorQ1
import Derived.Test.YtohcneeihdkfgaaGreatDoorQ3
import Derived.Test.YtohcneeihdkfgaaGreatDoorQ8
import Derived.Test.YtohcneeihdkfgaaGreatDoorQ17
import Derived.Test.YtohcneeihdkfgaaGreatDoorQ10
namespace Go.Proofs.YtohcneeihdkfgaaGreatDoor
open Go.ChangeShapes Go.WideShapes Go.ChangeAt Go.RowKit
open BN
theorem pw {l:List Nat} (h:canon l) {k:Nat} (hv:2^(32*k)≤val l):k<l.length:=by
 rcases bI k l.length with h1|h1
 ·exact h1
 ·have h2:=fO h.1;have h3:2^(32*l.length)≤2^(32*k):=ao eX eX;omega
set_option maxRecDepth 10000 in
theorem q2u (w:World) (va vb:Value) (a b K:Nat) (Y:K≤300000) (L:Num w va a) (hb:Num w vb b) (B:a<2^(32*K)) (E:b<2^(32*K)) (A:a<b):
  Calls Tryz.prog 222 #[va,vb] w (kl w (a/b) (a%b)):=by
 have D:=hi9 (jx w _ _ a b K eX L hb B E);have J:Hid (∀ I,G w I→_):=fun I g=>qj I _ a K eX (L.G g) B;obtain⟨m,S,M,C⟩:=hb;have O:m.length≠0:=by
  intro h;have:=aN h;rw[this] at C;simp [val] at C;omega
 obtain⟨c,X,rfl,W,-⟩:=fF S;have Z:decide (cmpV a b<0)=true:=by rw[decide_eq_true_iff];unfold cmpV;rw[if_pos A];omega
 have h1:a/b=0:=b9 A;have h2:a%b=a:=bh A;rw[h1,h2];generalize cmpV a b=cv at *;generalize m.length=n at *;have t2:((n:Int)==0)=false:=by simp;omega
 clear S M C A E B L h1 h2 O;go_enter Tryz.func222,Tryz.ntmps222;go_wp2_with fail;refine eW D.out ?_;rintro U I ⟨rfl,F⟩;go_wp2_with fail;refine eW (J.out I F) ?_;rintro U d ⟨v2,rfl,N,R⟩;go_wp2_with fail
 go_ret2
 exact⟨_,_,rfl,ab F N,ir _ _ _,R⟩
set_option maxRecDepth 10000 in
theorem q4m (w:World) (va vb:Value) (a b:Nat) (U:Num w va a) (hb:Num w vb b) (B:a<2^64) (X:b≤a) (W:0<b):
  Calls Tryz.prog 222 #[va,vb] w (kl w (a/b) (a%b)):=by
 have L:a/b<2^64:=aD (aX _ _) B;have N:a%b<2^64:=aD (Nat.mod_le _ _) B;have F:=hi9 (jx w _ _ a b 2 eX U hb B eX);have I:Hid (∀ A,G w A→_):=fun A g=>kP A _ a (U.G g);have J:Hid (∀ A,G w A→_):=fun A g=>kP A _ b (hb.G g);have HQ:Hid (∀ A,_):=fun A=>kU A (a/b) L;have HR:Hid (∀ A,_):=fun A=>kU A (a%b) N;rw[bh (show a<2^64 from B)] at I;rw[bh (show b<2^64 by omega)] at J;obtain⟨l,hl,K,O⟩:=U;have d:=fg K (k:=2) (by rw[O];exact B);obtain⟨m,hm,Y,E⟩:=hb;have o:m.length≠0:=by
  intro h;have:=aN h;rw[this] at E;simp [val] at E;omega
 obtain⟨pa,ca,rfl,an,-⟩:=fF hl;obtain⟨pb,cb,rfl,ap,-⟩:=fF hm;have hc:decide (cmpV a b<0)=false:=by rw[decide_eq_false_iff_not];unfold cmpV;rw[if_neg eX];split<;>omega
 generalize cmpV a b=cv at *;generalize m.length=n at *;generalize l.length=j at *;have t2:((n:Int)==0)=false:=by simp;omega
 have t1:decide ((j:Int)≤2)=true:=by simp;omega
 have ag:(a:Int)≤18446744073709551615:=by omega
 have al:(b:Int)≤18446744073709551615:=by omega
 have am:((b:Int)==0)=false:=by simp;omega
 have ai:(1:Int)≤b:=by omega
 have y:b≠0:=by omega
 have Z:IntKind.u64.wrap ((a:Int)/b)=((a/b:Nat):Int):=by rw[IntKind.wrap_u64,← dA];generalize a/b=q at *;omega
 have i:(a:Int)%b=((a%b:Nat):Int):=by rw[← dL]
 have af:(a:Int).tmod b=((a%b:Nat):Int):=by rw[dC eX];exact i
 have e:IntKind.u64.wrap ((a:Int).tdiv b)=((a/b:Nat):Int):=by rw[Int.tdiv_eq_ediv_of_nonneg eX];exact Z
 generalize a/b=dq at *;generalize a%b=dr at *;clear hm Y E X B o hl K O d W L N;go_enter Tryz.func222,Tryz.ntmps222;go_wp2_with fail;refine eW F.out ?_;rintro R A ⟨rfl,C⟩;go_wp2_with fail;refine eW (I.out A C) ?_;rintro R w2 ⟨rfl,D⟩;go_wp2_with fail;refine eW (J.out w2 (ab C D)) ?_;rintro R w3 ⟨rfl,M⟩;have S:=ab C (ab D M);clear C D M;go_wp2_with fail
 go_region_with
  (first
   |(go_at_call_of 196 dq;refine eW (HQ.out _) ?_;rintro R wn ⟨vn,rfl,c,s⟩)
   |(go_at_call_of 196 dr;refine eW (HR.out _) ?_;rintro R wn ⟨vn,rfl,c,s⟩))
 all_goals
  go_wp2_with fail
  go_ret2
  exact⟨_,_,rfl,ab S gv,(by first|assumption|exact Num.G mB mB),(by first|assumption|exact Num.G mB mB)⟩
theorem ma (w:World) (d:Nat) (e:TypeId) (B:d<2^32):Sl (w.alloc (.cells #[.int .u32 (d:Int)] e)) (.slice (some ⟨w.heap.size,0,none⟩) 1 1) [d]:=by
 refine⟨fun x A=> ?_,Or.inr ⟨w.heap.size,0,1,rfl,aI _,by simp,fun i hi=> ?_⟩⟩
 ·simp at A;rw[A];exact B
 ·rw[aK,World.cell?_alloc_at _ _ _ _ rfl];have:i=0:=by simp at hi;omega
  subst this;rfl
set_option maxRecDepth 10000 in
theorem q2v (w:World) (va vb:Value) (a b K:Nat) (hK:K≤300000) (d:Num w va a) (hb:Num w vb b) (B:a<2^(32*K)) (i:b≤a) (D:2^64≤a) (I:0<b) (J:b<2^32):
  Calls Tryz.prog 222 #[va,vb] w (kl w (a/b) (a%b)):=by
 have Y:a%b<2^32:=aj (aW _ I) eX;have R:=hi9 (jx w _ _ a b K eX d hb B eX);have c:Hid (∀ F,G w F→_):=fun F g=>q57 F _ a b K eX I J (d.G g) B;have S:Hid (∀ F,_):=fun F=>trim_c _ _ _ (ma F (a%b) 182 Y) fX;rw[show val [a%b]=a%b from by simp [val]] at S;obtain⟨l,hl,L,O⟩:=d;have y:=pw L (k:=2) (by rw[O];exact D);have e:=fg L (k:=K) (by rw[O];exact B);obtain⟨m,hm,W,A⟩:=hb;have N:m.length=1:=by
  have h1:=fg W (k:=1) (by rw[A];exact J);have h2:m.length≠0:=by
   intro h;have:=aN h;rw[this] at A;simp [val] at A;omega
  omega
 obtain⟨pa,ca,rfl,an,-⟩:=fF hl;obtain⟨pb,cb,rfl,ap,Z⟩:=fF hm;obtain⟨b0,o0,rfl,U,C⟩:=Z 0 eX;have X:m.getD 0 0=b:=by
  obtain⟨x,rfl⟩:=List.length_eq_one_iff.1 N;rw[iE] at A;simpa using A
 rw[X] at C;rw[aP] at C;have hc:decide (cmpV a b<0)=false:=by rw[decide_eq_false_iff_not];unfold cmpV;rw[if_neg eX];split<;>omega
 generalize cmpV a b=cv at *;rw[N] at *;generalize l.length=j at *;have t1:decide ((j:Int)≤2)=false:=by simp;omega
 have bi:(j:Int)≤300000:=by omega
 have al:(b:Int)≤4294967295:=by omega
 have ai:((a%b:Nat):Int)≤4294967295:=by omega
 generalize a/b=dq at *;generalize a%b=dr at *;clear hm W A i B N hl L O y I Y X Z D e J;go_enter Tryz.func222,Tryz.ntmps222;go_wp2_with fail;refine eW R.out ?_;rintro e1 F ⟨rfl,M⟩;have am:=M.cell U C;clear C;go_wp2_with fail;refine eW (c.out F M) ?_;rintro e1 w2 ⟨v2,rfl,o,af⟩;go_wp2_with fail;refine eW (S.out w2) ?_;rintro e1 w3 ⟨v3,rfl,s,ag⟩;have E:=ab ((ad w2).alloc (.cells #[.int .u32 (dr:Int)] 182)) s;go_wp2_with fail
 go_ret2
 exact⟨_,_,rfl,ab M (ab o E),af.G E,ag⟩
/-- Division of the reference's big numbers. -/
theorem q0y (w:World) (va vb:Value) (a b K:Nat) (I:K≤300000) (F:Num w va a) (hb:Num w vb b) (D:a<2^(32*K)) (J:b<2^(32*K)) (E:0<b):
  Calls Tryz.prog 222 #[va,vb] w (kl w (a/b) (a%b)):=by
 rcases bI a b with A|A
 ·exact q2u w va vb a b K I F hb D J A
 ·rcases bI a (2^64) with B|B
  ·exact q4m w va vb a b F hb B A E
  ·rcases bI b (2^32) with C|C
   ·exact q2v w va vb a b K I F hb D A B E C
   ·exact q1i w va vb a b K I F hb D A B C
/-- The number that a slice of words holds. -/
def numV (w:World):Value→Nat
 | .slice (some a) n _=>val ((List.range n).map fun i=>match w.cell? ⟨a.block,a.off+i,none⟩ with
  |some (.int _ z)=>z.toNat
  |_=>0)
 |_=>0
theorem ji {w:World} {v:Value} {n:Nat} (h:Num w v n):numV w v=n:=by
 obtain⟨l,A,-,rfl⟩:=h;rcases Sl.cases A with ⟨rfl,a,c,rfl⟩|⟨-,b,o,c,rfl,-,-,B⟩
 ·cases a<;>rfl
 ·show val _=val l
  congr 1
  refine List.ext_getElem fX fun i h1 h2=> ?_;rw[List.getElem_map,List.getElem_range];rw[B i h2];simp [List.getD_eq_getElem?_getD,h2]
theorem gcd_swap {X Y:Nat}:Nat.gcd Y (X%Y)=Nat.gcd Y X:=by
 rw[cg Y (X%Y),← eE]
set_option maxRecDepth 10000 in
theorem jM (w:World) (va vb:Value) (a b K:Nat) (hK:K≤300000) (ha:Num w va a) (hb:Num w vb b) (fh:0<a) (fp:a<2^(32*K)) (fr:b<2^(32*K)):
  Calls Tryz.prog 221 #[va,vb] w (fo w (Nat.gcd a b)):=by
 have HA:=hi9 ha;have HB:=hi9 hb;have gm:=hi9 fp;have hc:=hi9 fr;have gg:Hid (0<a):=fh;clear ha hb fp fr fh;go_enter Tryz.func221,Tryz.ntmps221;go_wp2_with fail
 go_loopw [0,1] (fun va vb wr=>∃ A B:Nat,Num wr va A∧Num wr vb B∧0<A∧A<2^(32*K)∧B<2^(32*K)∧Nat.gcd A B=Nat.gcd a b∧G w wr) (fun _ vb wr=>numV wr vb)
 case atStart=>exact⟨a,b,HA.out,HB.out,gg.out,gm.out,hc.out,rfl,ad _⟩
 case round=>
  obtain⟨A,B,hA,hB,bi,N,O,hg,hG⟩:=hrel;have cz:Hid (Num wr u0 A):=hA;have an:Hid (Num wr u1 B):=hB;obtain⟨l,hl,L,d⟩:=hB;obtain⟨m,hm,ag,al⟩:=hA;obtain⟨pb,cb,rfl,cd,-⟩:=fF hl;obtain⟨pa,ca,rfl,cc,-⟩:=fF hm;have ce:=fg L (k:=K) (by rw[d];exact O);have ci:=fg ag (k:=K) (by rw[al];exact N);have bz:Hid (Nat.gcd A B=Nat.gcd a b):=hg;have hp:Hid (0<A):=bi;have hq:Hid (A<2^(32*K)):=N;have cl:Hid (B<2^(32*K)):=O;have eu:Hid (0<B→Calls Tryz.prog 222 #[.slice pa m.length ca,.slice pb l.length cb] wr (kl wr (A/B) (A%B))):=fun h=>q0y wr _ _ A B K hK cz.out an.out N O h;by_cases ai:2<l.length
  ·have E:0<B:=by
    have:=gS L (by intro e;rw[e] at ai;simp at ai);have h2:=ae (32*(l.length-1));omega
   have cr:decide ((2:Int)<l.length)=true:=by simp;omega
   have gd:numV wr (.slice pb l.length cb)=B:=ji an.out;have he:=hi9 gd;have bw:Hid (0<B):=E;have o:Hid (Nat.gcd B (A%B)=Nat.gcd a b):=gcd_swap.trans ((cg B A).trans bz.out);have ez:Hid (A%B<B):=aW _ E;generalize l.length=j at *;generalize m.length=i at *;clear bi N O hg hl hm L ag d al cd cc ce ci ai E gd;go_wp2_with fail;refine eW (eu.out bw.out) ?_;rintro e w2 ⟨v2,v3,rfl,S,em,am⟩;have cs:=ji am;have fa:=hi9 cs;have hf:=hi9 am;have ap:Hid (Num w2 (.slice pb j cb) B):=an.out.G S;have F:=ab hG S;clear em am cs S;go_wp2_with fail
   go_roundw
   case rel=>exact⟨B,A%B,ap.out,hf.out,bw.out,cl.out,Nat.lt_trans ez.out cl.out,o.out,F⟩
   case measure=>
    have h1:=he.out;have h2:=fa.out;have h3:=ez.out;rw[h1,h2];exact h3
  ·have cr:decide ((2:Int)<l.length)=false:=by simp;omega
   have D:B<2^64:=by
    have:=fO L.1;rw[d] at this;exact aj this (ao eX eX)
   by_cases c:l.length=0
   ·have E:B=0:=by rw[← d,(ie L).2 (aN c)]
    subst E;have fs:A=Nat.gcd a b:=by rw[← bz.out,dB]
    have hd:=hi9 fs;rw[c];rw[c] at cr;generalize m.length=i at *;clear bi N O hg hl hm L ag d al cd cc ce ci ai c fs D;go_wp2_with fail;go_ret;exact⟨_,rfl,hG,by rw[← hd.out];exact cz.out⟩
   ·have hr:((l.length:Int)==0)=false:=by simp;intro h;exact c (by rw[h];rfl)
    have E:0<B:=by
     have:=gS L (by intro e;rw[e] at c;exact c rfl);have h2:=ae (32*(l.length-1));omega
    have bw:Hid (0<B):=E;have hs:(l.length:Int)≤2:=by omega
    by_cases fv:2<m.length
    ·have ga:decide ((2:Int)<m.length)=true:=by simp;omega
     have o:Hid (Nat.gcd B (A%B)=Nat.gcd a b):=gcd_swap.trans ((cg B A).trans bz.out);have s:Hid (B<18446744073709551616):=D;have y:Hid (A%B<18446744073709551616):=Nat.lt_trans (aW _ E) D;generalize l.length=j at *;generalize m.length=i at *;clear bi N O hg hl hm L ag d al cd cc ce ci ai E D fv;go_wp2_with fail;refine eW (eu.out bw.out) ?_;rintro e w2 ⟨v2,v3,rfl,S,em,am⟩;have ap:Hid (Num w2 (.slice pb j cb) B):=an.out.G S;have I:=hi9 (kP w2 _ B ap.out);have J:Hid (∀ w3,G w2 w3→_):=fun w3 g=>kP w3 _ (A%B) (am.G g);rw[bh (show B<2^64 from s.out)] at I;rw[bh (show A%B<2^64 from y.out)] at J;have F:=ab hG S;obtain⟨X0,af⟩:∃ X0,X0=B:=⟨_,rfl⟩;obtain⟨Y0,C⟩:∃ Y0,Y0=A%B:=⟨_,rfl⟩;rw[← C] at J y o;rw[← af] at I s o;have dl:Hid (Nat.gcd X0 Y0=Nat.gcd a b):=o.out;clear em am S af C o;go_wp2_with fail;refine eW I.out ?_;rintro e w3 ⟨rfl,U⟩;go_wp2_with fail;refine eW (J.out w3 U) ?_;rintro e w4 ⟨rfl,bq⟩;have bm:=ab F (ab U bq);go_wp2_with fail;clear F U bq I J
     go_loopw [9,10] (fun vx vy wr=>∃ X Y:Nat,vx= .int .u64 X∧vy= .int .u64 Y∧X<18446744073709551616∧Y<18446744073709551616∧Nat.gcd X Y=Nat.gcd a b∧G w wr) (fun _ vy _=>(intOf vy).toNat)
     case atStart=>exact⟨X0,Y0,rfl,rfl,s.out,y.out,dl.out,bm⟩
     case round=>
      obtain⟨X,Y,rfl,rfl,hX,hY,bs,F⟩:=hrel;have M:Hid (Nat.gcd X Y=Nat.gcd a b):=bs;have hh:(X:Int)≤18446744073709551615:=by omega
      have hk:(Y:Int)≤18446744073709551615:=by omega
      clear bs bm;by_cases C:0<Y
      ·have hj:(1:Int)≤Y:=by omega
       have fb:Y≠0:=by omega
       have hn:decide (0<Y)=true:=by simpa using C
       have ho:((Y:Int)==0)=false:=by simp;omega
       obtain⟨Z,hZ,R,bn⟩:∃ Z:Nat,Z=X%Y∧(X:Int)%Y=Z∧Z<Y:=⟨X%Y,rfl,by rw[← dL],aW _ C⟩;have ec:(X:Int).tmod Y=Z:=by rw[dC eX];exact R
       have di:Hid (Nat.gcd Y Z=Nat.gcd a b):=by show Nat.gcd Y Z=Nat.gcd a b;rw[hZ];exact gcd_swap.trans ((cg Y X).trans M.out)
       have ds:Hid (Z<Y):=bn;have dr:Hid (Y<18446744073709551616):=hY;have eb:Z<18446744073709551616:=by omega
       clear hZ hX hY bn;go_wp2_with fail;refine fq eZ eZ ?_;intro W hW;clear hW
       repeat (go_big_quiet_step (fail))
       refine wpQuiet_nil ?_;intro w5 bv;have ea:=ab F bv;clear bv;go_wp2_with fail
       try simp only[R]
       go_roundw
       case rel=>exact⟨Y,Z,rfl,by first|rfl|(rw[R])|(rw[ec]),dr.out,eb,di.out,ea⟩
       case measure=>have:=ds.out;simp only[intOf];omega
      ·obtain rfl:Y=0:=by omega
       have bu:X=Nat.gcd a b:=by rw[← M.out,dB]
       have dq:Hid (X=Nat.gcd a b):=bu;have HW:Hid (∀ w1,_):=fun w1=>kU w1 X hX;clear hX hY bu;go_wp2_with fail;refine eW (HW.out wr) ?_;rintro e w5 ⟨v5,rfl,ee,ep⟩;go_wp2_with fail;go_ret;exact⟨v5,rfl,ab F ee,by rw[← dq.out];exact ep⟩
    ·have ga:decide ((2:Int)<m.length)=false:=by simp;omega
     have bl:A<2^64:=by
      have:=fO ag.1;rw[al] at this;exact aj this (ao eX eX)
     have s:Hid (A<18446744073709551616):=bl;have y:Hid (B<18446744073709551616):=D;have ht:(m.length:Int)≤2:=by omega
     have I:=hi9 (kP wr _ A cz.out);have J:Hid (∀ w3,G wr w3→_):=fun w3 g=>kP w3 _ B (an.out.G g);rw[bh (show A<2^64 from bl)] at I;rw[bh (show B<2^64 from D)] at J;generalize l.length=j at *;generalize m.length=i at *;clear bi N O hg hl hm L ag d al cd cc ce ci ai E D fv bl;obtain⟨X0,af⟩:∃ X0,X0=A:=⟨_,rfl⟩;obtain⟨Y0,C⟩:∃ Y0,Y0=B:=⟨_,rfl⟩;have dl:Hid (Nat.gcd X0 Y0=Nat.gcd a b):=by show Nat.gcd X0 Y0=Nat.gcd a b;rw[af,C];exact bz.out
     rw[← C] at J y;rw[← af] at I s;clear af C;go_wp2_with fail;refine eW I.out ?_;rintro e w3 ⟨rfl,U⟩;go_wp2_with fail;refine eW (J.out w3 U) ?_;rintro e w4 ⟨rfl,bq⟩;have bm:=ab hG (ab U bq);go_wp2_with fail;clear U bq I J
     go_loopw [9,10] (fun vx vy wr=>∃ X Y:Nat,vx= .int .u64 X∧vy= .int .u64 Y∧X<18446744073709551616∧Y<18446744073709551616∧Nat.gcd X Y=Nat.gcd a b∧G w wr) (fun _ vy _=>(intOf vy).toNat)
     case atStart=>exact⟨X0,Y0,rfl,rfl,s.out,y.out,dl.out,bm⟩
     case round=>
      obtain⟨X,Y,rfl,rfl,hX,hY,bs,F⟩:=hrel;have M:Hid (Nat.gcd X Y=Nat.gcd a b):=bs;have hh:(X:Int)≤18446744073709551615:=by omega
      have hk:(Y:Int)≤18446744073709551615:=by omega
      clear bs bm;by_cases C:0<Y
      ·have hj:(1:Int)≤Y:=by omega
       have fb:Y≠0:=by omega
       have hn:decide (0<Y)=true:=by simpa using C
       have ho:((Y:Int)==0)=false:=by simp;omega
       obtain⟨Z,hZ,R,bn⟩:∃ Z:Nat,Z=X%Y∧(X:Int)%Y=Z∧Z<Y:=⟨X%Y,rfl,by rw[← dL],aW _ C⟩;have ec:(X:Int).tmod Y=Z:=by rw[dC eX];exact R
       have di:Hid (Nat.gcd Y Z=Nat.gcd a b):=by show Nat.gcd Y Z=Nat.gcd a b;rw[hZ];exact gcd_swap.trans ((cg Y X).trans M.out)
       have ds:Hid (Z<Y):=bn;have dr:Hid (Y<18446744073709551616):=hY;have eb:Z<18446744073709551616:=by omega
       clear hZ hX hY bn;go_wp2_with fail;refine fq eZ eZ ?_;intro W hW;clear hW
       repeat (go_big_quiet_step (fail))
       refine wpQuiet_nil ?_;intro w5 bv;have ea:=ab F bv;clear bv;go_wp2_with fail
       try simp only[R]
       go_roundw
       case rel=>exact⟨Y,Z,rfl,by first|rfl|(rw[R])|(rw[ec]),dr.out,eb,di.out,ea⟩
       case measure=>have:=ds.out;simp only[intOf];omega
      ·obtain rfl:Y=0:=by omega
       have bu:X=Nat.gcd a b:=by rw[← M.out,dB]
       have dq:Hid (X=Nat.gcd a b):=bu;have HW:Hid (∀ w1,_):=fun w1=>kU w1 X hX;clear hX hY bu;go_wp2_with fail;refine eW (HW.out wr) ?_;rintro e w5 ⟨v5,rfl,ee,ep⟩;go_wp2_with fail;go_ret;exact⟨v5,rfl,ab F ee,by rw[← dq.out];exact ep⟩
end Go.Proofs.YtohcneeihdkfgaaGreatDoor
