/- What is proved here: contracts of the reference's big numbers: div, all its ways, over this seat's translation.
What is proved here: contracts of the reference's big numbers: common (the greatest divisor), over this seat's translation. -/
import Derived.Test.YtfnkkkcojnffdaaGreatDoorQ1
import Derived.Test.YtfnkkkcojnffdaaGreatDoorQ3
import Derived.Test.YtfnkkkcojnffdaaGreatDoorQ18
import Derived.Test.YtfnkkkcojnffdaaGreatDoorQ21
import Derived.Test.YtfnkkkcojnffdaaGreatDoorQ8
namespace Go.Proofs.YtfnkkkcojnffdaaGreatDoor
open Go.ChangeShapes Go.WideShapes Go.ChangeAt Go.RowKit
open BN
theorem mE {l:List Nat} (h:canon l) {k:Nat} (hv:2^(32*k)≤val l):k<l.length:=by
 rcases br k l.length with h1|h1
 ·exact h1
 ·have h2:=fm h.1;have h3:2^(32*l.length)≤2^(32*k):=ai eK eK;omega
set_option maxRecDepth 10000 in
theorem rR (w:World) (va vb:Value) (a b K:Nat) (Y:K≤300000) (L:Num w va a) (hb:Num w vb b) (B:a<2^(32*K)) (E:b<2^(32*K)) (A:a<b):
  Calls Tryz.prog 159 #[va,vb] w (iY w (a/b) (a%b)):=by
 have D:=hi9 (iz w _ _ a b K eK L hb B E);have J:Hid (∀ I,G w I→_):=fun I g=>kC I _ a K eK (L.G g) B;obtain⟨m,S,M,C⟩:=hb;have O:m.length≠0:=by
  intro h;have:=aH h;rw[this] at C;simp [val] at C;omega
 obtain⟨c,X,rfl,W,-⟩:=fa S;have Z:decide (cmpV a b<0)=true:=by rw[decide_eq_true_iff];unfold cmpV;rw[if_pos A];omega
 have h1:a/b=0:=aR A;have h2:a%b=a:=aU A;rw[h1,h2];generalize cmpV a b=cv at *;generalize m.length=n at *;have t2:((n:Int)==0)=false:=by simp;omega
 clear S M C A E B L h1 h2 O;go_enter Tryz.func159,Tryz.ntmps159;go_wp2_with fail;refine eJ D.out ?_;rintro U I ⟨rfl,F⟩;go_wp2_with fail;refine eJ (J.out I F) ?_;rintro U d ⟨v2,rfl,N,R⟩;go_wp2_with fail
 go_ret2
 exact⟨_,_,rfl,aa F N,gF _ _ _,R⟩
set_option maxRecDepth 10000 in
theorem q1v (w:World) (va vb:Value) (a b:Nat) (U:Num w va a) (hb:Num w vb b) (B:a<2^64) (X:b≤a) (W:0<b):
  Calls Tryz.prog 159 #[va,vb] w (iY w (a/b) (a%b)):=by
 have L:a/b<2^64:=aq (aN _ _) B;have N:a%b<2^64:=aq (Nat.mod_le _ _) B;have F:=hi9 (iz w _ _ a b 2 eK U hb B eK);have I:Hid (∀ A,G w A→_):=fun A g=>jq A _ a (U.G g);have J:Hid (∀ A,G w A→_):=fun A g=>jq A _ b (hb.G g);have HQ:Hid (∀ A,_):=fun A=>jv A (a/b) L;have HR:Hid (∀ A,_):=fun A=>jv A (a%b) N;rw[aU (show a<2^64 from B)] at I;rw[aU (show b<2^64 by omega)] at J;obtain⟨l,hl,K,O⟩:=U;have d:=eQ K (k:=2) (by rw[O];exact B);obtain⟨m,hm,Y,E⟩:=hb;have o:m.length≠0:=by
  intro h;have:=aH h;rw[this] at E;simp [val] at E;omega
 obtain⟨pa,ca,rfl,bi,-⟩:=fa hl;obtain⟨pb,cb,rfl,bl,-⟩:=fa hm;have hc:decide (cmpV a b<0)=false:=by rw[decide_eq_false_iff_not];unfold cmpV;rw[if_neg eK];split<;>omega
 generalize cmpV a b=cv at *;generalize m.length=n at *;generalize l.length=j at *;have t2:((n:Int)==0)=false:=by simp;omega
 have t1:decide ((j:Int)≤2)=true:=by simp;omega
 have am:(a:Int)≤18446744073709551615:=by omega
 have ao:(b:Int)≤18446744073709551615:=by omega
 have ap:((b:Int)==0)=false:=by simp;omega
 have an:(1:Int)≤b:=by omega
 have y:b≠0:=by omega
 have Z:IntKind.u64.wrap ((a:Int)/b)=((a/b:Nat):Int):=by rw[IntKind.wrap_u64,← cW];generalize a/b=q at *;omega
 have i:(a:Int)%b=((a%b:Nat):Int):=by rw[← dx]
 have al:(a:Int).tmod b=((a%b:Nat):Int):=by rw[cY eK];exact i
 have e:IntKind.u64.wrap ((a:Int).tdiv b)=((a/b:Nat):Int):=by rw[Int.tdiv_eq_ediv_of_nonneg eK];exact Z
 generalize a/b=dq at *;generalize a%b=dr at *;clear hm Y E X B o hl K O d W L N;go_enter Tryz.func159,Tryz.ntmps159;go_wp2_with fail;refine eJ F.out ?_;rintro R A ⟨rfl,C⟩;go_wp2_with fail;refine eJ (I.out A C) ?_;rintro R w2 ⟨rfl,D⟩;go_wp2_with fail;refine eJ (J.out w2 (aa C D)) ?_;rintro R w3 ⟨rfl,M⟩;have S:=aa C (aa D M);clear C D M;go_wp2_with fail
 go_region_with
  (first
   |(go_at_call_of 151 dq;refine eJ (HQ.out _) ?_;rintro R wn ⟨vn,rfl,c,s⟩)
   |(go_at_call_of 151 dr;refine eJ (HR.out _) ?_;rintro R wn ⟨vn,rfl,c,s⟩))
 all_goals
  go_wp2_with fail
  go_ret2
  exact⟨_,_,rfl,aa S lT,(by first|assumption|exact Num.G kg kg),(by first|assumption|exact Num.G kg kg)⟩
theorem jk (w:World) (d:Nat) (e:TypeId) (B:d<2^32):Sl (w.alloc (.cells #[.int .u32 (d:Int)] e)) (.slice (some ⟨w.heap.size,0,none⟩) 1 1) [d]:=by
 refine⟨fun x A=> ?_,Or.inr ⟨w.heap.size,0,1,rfl,az _,by simp,fun i hi=> ?_⟩⟩
 ·simp at A;rw[A];exact B
 ·rw[aD,World.cell?_alloc_at _ _ _ _ rfl];have:i=0:=by simp at hi;omega
  subst this;rfl
set_option maxRecDepth 10000 in
theorem rT (w:World) (va vb:Value) (a b K:Nat) (hK:K≤300000) (d:Num w va a) (hb:Num w vb b) (B:a<2^(32*K)) (i:b≤a) (D:2^64≤a) (I:0<b) (J:b<2^32):
  Calls Tryz.prog 159 #[va,vb] w (iY w (a/b) (a%b)):=by
 have Y:a%b<2^32:=ae (aX _ I) eK;have R:=hi9 (iz w _ _ a b K eK d hb B eK);have c:Hid (∀ F,G w F→_):=fun F g=>qj F _ a b K eK I J (d.G g) B;have S:Hid (∀ F,_):=fun F=>trim_c _ _ _ (jk F (a%b) 149 Y) fI;rw[show val [a%b]=a%b from by simp [val]] at S;obtain⟨l,hl,L,O⟩:=d;have y:=mE L (k:=2) (by rw[O];exact D);have e:=eQ L (k:=K) (by rw[O];exact B);obtain⟨m,hm,W,A⟩:=hb;have N:m.length=1:=by
  have h1:=eQ W (k:=1) (by rw[A];exact J);have h2:m.length≠0:=by
   intro h;have:=aH h;rw[this] at A;simp [val] at A;omega
  omega
 obtain⟨pa,ca,rfl,bi,-⟩:=fa hl;obtain⟨pb,cb,rfl,bl,Z⟩:=fa hm;obtain⟨b0,o0,rfl,U,C⟩:=Z 0 eK;have X:m.getD 0 0=b:=by
  obtain⟨x,rfl⟩:=List.length_eq_one_iff.1 N;rw[gK] at A;simpa using A
 rw[X] at C;rw[aS] at C;have hc:decide (cmpV a b<0)=false:=by rw[decide_eq_false_iff_not];unfold cmpV;rw[if_neg eK];split<;>omega
 generalize cmpV a b=cv at *;rw[N] at *;generalize l.length=j at *;have t1:decide ((j:Int)≤2)=false:=by simp;omega
 have bn:(j:Int)≤300000:=by omega
 have ao:(b:Int)≤4294967295:=by omega
 have an:((a%b:Nat):Int)≤4294967295:=by omega
 generalize a/b=dq at *;generalize a%b=dr at *;clear hm W A i B N hl L O y I Y X Z D e J;go_enter Tryz.func159,Tryz.ntmps159;go_wp2_with fail;refine eJ R.out ?_;rintro e1 F ⟨rfl,M⟩;have ap:=M.cell U C;clear C;go_wp2_with fail;refine eJ (c.out F M) ?_;rintro e1 w2 ⟨v2,rfl,o,al⟩;go_wp2_with fail;refine eJ (S.out w2) ?_;rintro e1 w3 ⟨v3,rfl,s,am⟩;have E:=aa ((ag w2).alloc (.cells #[.int .u32 (dr:Int)] 149)) s;go_wp2_with fail
 go_ret2
 exact⟨_,_,rfl,aa M (aa o E),al.G E,am⟩
/-- Division of the reference's big numbers. -/
theorem pO (w:World) (va vb:Value) (a b K:Nat) (I:K≤300000) (F:Num w va a) (hb:Num w vb b) (D:a<2^(32*K)) (J:b<2^(32*K)) (E:0<b):
  Calls Tryz.prog 159 #[va,vb] w (iY w (a/b) (a%b)):=by
 rcases br a b with A|A
 ·exact rR w va vb a b K I F hb D J A
 ·rcases br a (2^64) with B|B
  ·exact q1v w va vb a b F hb B A E
  ·rcases br b (2^32) with C|C
   ·exact rT w va vb a b K I F hb D A B E C
   ·exact qK w va vb a b K I F hb D A B C
/-- The number that a slice of words holds. -/
def numV (w:World):Value→Nat
 | .slice (some a) n _=>val ((List.range n).map fun i=>match w.cell? ⟨a.block,a.off+i,none⟩ with
  |some (.int _ z)=>z.toNat
  |_=>0)
 |_=>0
theorem gE {w:World} {v:Value} {n:Nat} (h:Num w v n):numV w v=n:=by
 obtain⟨l,A,-,rfl⟩:=h;rcases Sl.cases A with ⟨rfl,a,c,rfl⟩|⟨-,b,o,c,rfl,-,-,B⟩
 ·cases a<;>rfl
 ·show val _=val l
  congr 1
  refine eH fI fun i h1 h2=> ?_;rw[List.getElem_map,List.getElem_range];rw[B i h2];simp [List.getD_eq_getElem?_getD,h2]
theorem gcd_swap {X Y:Nat}:Nat.gcd Y (X%Y)=Nat.gcd Y X:=by
 rw[bL Y (X%Y),← eg]
set_option maxRecDepth 10000 in
theorem iO (w:World) (va vb:Value) (a b K:Nat) (hK:K≤300000) (ha:Num w va a) (hb:Num w vb b) (fs:0<a) (fv:a<2^(32*K)) (ga:b<2^(32*K)):
  Calls Tryz.prog 158 #[va,vb] w (eU w (Nat.gcd a b)):=by
 have HA:=hi9 ha;have HB:=hi9 hb;have gm:=hi9 fv;have gn:=hi9 ga;have gl:Hid (0<a):=fs;clear ha hb fv ga fs;go_enter Tryz.func158,Tryz.ntmps158;go_wp2_with fail
 go_loopw [0,1] (fun va vb wr=>∃ A B:Nat,Num wr va A∧Num wr vb B∧0<A∧A<2^(32*K)∧B<2^(32*K)∧Nat.gcd A B=Nat.gcd a b∧G w wr) (fun _ vb wr=>numV wr vb)
 case atStart=>exact⟨a,b,HA.out,HB.out,gl.out,gm.out,gn.out,rfl,ag _⟩
 case round=>
  obtain⟨A,B,hA,hB,bn,N,O,hg,hG⟩:=hrel;have cz:Hid (Num wr u0 A):=hA;have bi:Hid (Num wr u1 B):=hB;obtain⟨l,hl,L,d⟩:=hB;obtain⟨m,hm,am,ao⟩:=hA;obtain⟨pb,cb,rfl,cm,-⟩:=fa hl;obtain⟨pa,ca,rfl,cl,-⟩:=fa hm;have cn:=eQ L (k:=K) (by rw[d];exact O);have cr:=eQ am (k:=K) (by rw[ao];exact N);have ci:Hid (Nat.gcd A B=Nat.gcd a b):=hg;have hn:Hid (0<A):=bn;have ho:Hid (A<2^(32*K)):=N;have cs:Hid (B<2^(32*K)):=O;have en:Hid (0<B→Calls Tryz.prog 159 #[.slice pa m.length ca,.slice pb l.length cb] wr (iY wr (A/B) (A%B))):=fun h=>pO wr _ _ A B K hK cz.out bi.out N O h;by_cases an:2<l.length
  ·have E:0<B:=by
    have:=fZ L (by intro e;rw[e] at an;simp at an);have h2:=af (32*(l.length-1));omega
   have cx:decide ((2:Int)<l.length)=true:=by simp;omega
   have gk:numV wr (.slice pb l.length cb)=B:=gE bi.out;have hc:=hi9 gk;have ce:Hid (0<B):=E;have o:Hid (Nat.gcd B (A%B)=Nat.gcd a b):=gcd_swap.trans ((bL B A).trans ci.out);have ep:Hid (A%B<B):=aX _ E;generalize l.length=j at *;generalize m.length=i at *;clear bn N O hg hl hm L am d ao cm cl cn cr an E gk;go_wp2_with fail;refine eJ (en.out ce.out) ?_;rintro e w2 ⟨v2,v3,rfl,S,ee,ap⟩;have cy:=gE ap;have fp:=hi9 cy;have hd:=hi9 ap;have bl:Hid (Num w2 (.slice pb j cb) B):=bi.out.G S;have F:=aa hG S;clear ee ap cy S;go_wp2_with fail
   go_roundw
   case rel=>exact⟨B,A%B,bl.out,hd.out,ce.out,cs.out,Nat.lt_trans ep.out cs.out,o.out,F⟩
   case measure=>
    have h1:=hc.out;have h2:=fp.out;have h3:=ep.out;rw[h1,h2];exact h3
  ·have cx:decide ((2:Int)<l.length)=false:=by simp;omega
   have D:B<2^64:=by
    have:=fm L.1;rw[d] at this;exact ae this (ai eK eK)
   by_cases c:l.length=0
   ·have E:B=0:=by rw[← d,(fR L).2 (aH c)]
    subst E;have gd:A=Nat.gcd a b:=by rw[← ci.out,cX]
    have gz:=hi9 gd;rw[c];rw[c] at cx;generalize m.length=i at *;clear bn N O hg hl hm L am d ao cm cl cn cr an c gd D;go_wp2_with fail;go_ret;exact⟨_,rfl,hG,by rw[← gz.out];exact cz.out⟩
   ·have hp:((l.length:Int)==0)=false:=by simp;intro h;exact c (by rw[h];rfl)
    have E:0<B:=by
     have:=fZ L (by intro e;rw[e] at c;exact c rfl);have h2:=af (32*(l.length-1));omega
    have ce:Hid (0<B):=E;have hq:(l.length:Int)≤2:=by omega
    by_cases gf:2<m.length
    ·have gg:decide ((2:Int)<m.length)=true:=by simp;omega
     have o:Hid (Nat.gcd B (A%B)=Nat.gcd a b):=gcd_swap.trans ((bL B A).trans ci.out);have s:Hid (B<18446744073709551616):=D;have y:Hid (A%B<18446744073709551616):=Nat.lt_trans (aX _ E) D;generalize l.length=j at *;generalize m.length=i at *;clear bn N O hg hl hm L am d ao cm cl cn cr an E D gf;go_wp2_with fail;refine eJ (en.out ce.out) ?_;rintro e w2 ⟨v2,v3,rfl,S,ee,ap⟩;have bl:Hid (Num w2 (.slice pb j cb) B):=bi.out.G S;have I:=hi9 (jq w2 _ B bl.out);have J:Hid (∀ w3,G w2 w3→_):=fun w3 g=>jq w3 _ (A%B) (ap.G g);rw[aU (show B<2^64 from s.out)] at I;rw[aU (show A%B<2^64 from y.out)] at J;have F:=aa hG S;obtain⟨X0,al⟩:∃ X0,X0=B:=⟨_,rfl⟩;obtain⟨Y0,C⟩:∃ Y0,Y0=A%B:=⟨_,rfl⟩;rw[← C] at J y o;rw[← al] at I s o;have dl:Hid (Nat.gcd X0 Y0=Nat.gcd a b):=o.out;clear ee ap S al C o;go_wp2_with fail;refine eJ I.out ?_;rintro e w3 ⟨rfl,U⟩;go_wp2_with fail;refine eJ (J.out w3 U) ?_;rintro e w4 ⟨rfl,bv⟩;have bs:=aa F (aa U bv);go_wp2_with fail;clear F U bv I J
     go_loopw [9,10] (fun vx vy wr=>∃ X Y:Nat,vx= .int .u64 X∧vy= .int .u64 Y∧X<18446744073709551616∧Y<18446744073709551616∧Nat.gcd X Y=Nat.gcd a b∧G w wr) (fun _ vy _=>(intOf vy).toNat)
     case atStart=>exact⟨X0,Y0,rfl,rfl,s.out,y.out,dl.out,bs⟩
     case round=>
      obtain⟨X,Y,rfl,rfl,hX,hY,bz,F⟩:=hrel;have M:Hid (Nat.gcd X Y=Nat.gcd a b):=bz;have he:(X:Int)≤18446744073709551615:=by omega
      have hh:(Y:Int)≤18446744073709551615:=by omega
      clear bz bs;by_cases C:0<Y
      ·have hf:(1:Int)≤Y:=by omega
       have fr:Y≠0:=by omega
       have hj:decide (0<Y)=true:=by simpa using C
       have hk:((Y:Int)==0)=false:=by simp;omega
       obtain⟨Z,hZ,R,bu⟩:∃ Z:Nat,Z=X%Y∧(X:Int)%Y=Z∧Z<Y:=⟨X%Y,rfl,by rw[← dx],aX _ C⟩;have ec:(X:Int).tmod Y=Z:=by rw[cY eK];exact R
       have dk:Hid (Nat.gcd Y Z=Nat.gcd a b):=by show Nat.gcd Y Z=Nat.gcd a b;rw[hZ];exact gcd_swap.trans ((bL Y X).trans M.out)
       have ds:Hid (Z<Y):=bu;have dr:Hid (Y<18446744073709551616):=hY;have eb:Z<18446744073709551616:=by omega
       clear hZ hX hY bu;go_wp2_with fail;refine eV eM eM ?_;intro W hW;clear hW
       repeat (go_big_quiet_step (fail))
       refine wpQuiet_nil ?_;intro w5 cd;have ea:=aa F cd;clear cd;go_wp2_with fail
       try simp only[R]
       go_roundw
       case rel=>exact⟨Y,Z,rfl,by first|rfl|(rw[R])|(rw[ec]),dr.out,eb,dk.out,ea⟩
       case measure=>have:=ds.out;simp only[intOf];omega
      ·obtain rfl:Y=0:=by omega
       have cc:X=Nat.gcd a b:=by rw[← M.out,cX]
       have dq:Hid (X=Nat.gcd a b):=cc;have HW:Hid (∀ w1,_):=fun w1=>jv w1 X hX;clear hX hY cc;go_wp2_with fail;refine eJ (HW.out wr) ?_;rintro e w5 ⟨v5,rfl,ed,em⟩;go_wp2_with fail;go_ret;exact⟨v5,rfl,aa F ed,by rw[← dq.out];exact em⟩
    ·have gg:decide ((2:Int)<m.length)=false:=by simp;omega
     have bq:A<2^64:=by
      have:=fm am.1;rw[ao] at this;exact ae this (ai eK eK)
     have s:Hid (A<18446744073709551616):=bq;have y:Hid (B<18446744073709551616):=D;have hr:(m.length:Int)≤2:=by omega
     have I:=hi9 (jq wr _ A cz.out);have J:Hid (∀ w3,G wr w3→_):=fun w3 g=>jq w3 _ B (bi.out.G g);rw[aU (show A<2^64 from bq)] at I;rw[aU (show B<2^64 from D)] at J;generalize l.length=j at *;generalize m.length=i at *;clear bn N O hg hl hm L am d ao cm cl cn cr an E D gf bq;obtain⟨X0,al⟩:∃ X0,X0=A:=⟨_,rfl⟩;obtain⟨Y0,C⟩:∃ Y0,Y0=B:=⟨_,rfl⟩;have dl:Hid (Nat.gcd X0 Y0=Nat.gcd a b):=by show Nat.gcd X0 Y0=Nat.gcd a b;rw[al,C];exact ci.out
     rw[← C] at J y;rw[← al] at I s;clear al C;go_wp2_with fail;refine eJ I.out ?_;rintro e w3 ⟨rfl,U⟩;go_wp2_with fail;refine eJ (J.out w3 U) ?_;rintro e w4 ⟨rfl,bv⟩;have bs:=aa hG (aa U bv);go_wp2_with fail;clear U bv I J
     go_loopw [9,10] (fun vx vy wr=>∃ X Y:Nat,vx= .int .u64 X∧vy= .int .u64 Y∧X<18446744073709551616∧Y<18446744073709551616∧Nat.gcd X Y=Nat.gcd a b∧G w wr) (fun _ vy _=>(intOf vy).toNat)
     case atStart=>exact⟨X0,Y0,rfl,rfl,s.out,y.out,dl.out,bs⟩
     case round=>
      obtain⟨X,Y,rfl,rfl,hX,hY,bz,F⟩:=hrel;have M:Hid (Nat.gcd X Y=Nat.gcd a b):=bz;have he:(X:Int)≤18446744073709551615:=by omega
      have hh:(Y:Int)≤18446744073709551615:=by omega
      clear bz bs;by_cases C:0<Y
      ·have hf:(1:Int)≤Y:=by omega
       have fr:Y≠0:=by omega
       have hj:decide (0<Y)=true:=by simpa using C
       have hk:((Y:Int)==0)=false:=by simp;omega
       obtain⟨Z,hZ,R,bu⟩:∃ Z:Nat,Z=X%Y∧(X:Int)%Y=Z∧Z<Y:=⟨X%Y,rfl,by rw[← dx],aX _ C⟩;have ec:(X:Int).tmod Y=Z:=by rw[cY eK];exact R
       have dk:Hid (Nat.gcd Y Z=Nat.gcd a b):=by show Nat.gcd Y Z=Nat.gcd a b;rw[hZ];exact gcd_swap.trans ((bL Y X).trans M.out)
       have ds:Hid (Z<Y):=bu;have dr:Hid (Y<18446744073709551616):=hY;have eb:Z<18446744073709551616:=by omega
       clear hZ hX hY bu;go_wp2_with fail;refine eV eM eM ?_;intro W hW;clear hW
       repeat (go_big_quiet_step (fail))
       refine wpQuiet_nil ?_;intro w5 cd;have ea:=aa F cd;clear cd;go_wp2_with fail
       try simp only[R]
       go_roundw
       case rel=>exact⟨Y,Z,rfl,by first|rfl|(rw[R])|(rw[ec]),dr.out,eb,dk.out,ea⟩
       case measure=>have:=ds.out;simp only[intOf];omega
      ·obtain rfl:Y=0:=by omega
       have cc:X=Nat.gcd a b:=by rw[← M.out,cX]
       have dq:Hid (X=Nat.gcd a b):=cc;have HW:Hid (∀ w1,_):=fun w1=>jv w1 X hX;clear hX hY cc;go_wp2_with fail;refine eJ (HW.out wr) ?_;rintro e w5 ⟨v5,rfl,ed,em⟩;go_wp2_with fail;go_ret;exact⟨v5,rfl,aa F ed,by rw[← dq.out];exact em⟩
end Go.Proofs.YtfnkkkcojnffdaaGreatDoor
