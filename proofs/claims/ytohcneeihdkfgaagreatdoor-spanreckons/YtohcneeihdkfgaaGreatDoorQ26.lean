/- What is proved here: contracts of package exact: left, over this seat's translation.
What is proved here: contracts of package exact: window, over this seat's translation.
What is proved here: contracts of package exact: right, over this seat's translation.
What is proved here: contracts of package exact: size, over this seat's translation.
What is proved here: contracts of package exact: twos, over this seat's translation.
What is proved here: the library's quotient of two words by one: its arithmetic (no program).
What is proved here: contracts of package exact: the library's quotient of two words by one, over this seat's translation.
What is proved here: contracts of package exact: divideWord, over this seat's translation.
What is proved here: contracts of package exact: digit, over this seat's translation.
What is proved here: long division in words of 64 bits, its arithmetic (no program). -/
import Derived.Test.YtohcneeihdkfgaaGreatDoorQ1
import Derived.Test.YtohcneeihdkfgaaGreatDoorQ10
import Derived.Test.YtohcneeihdkfgaaGreatDoorQ3
import Derived.Test.YtohcneeihdkfgaaGreatDoorQ25
import Derived.Test.YtohcneeihdkfgaaGreatDoorQ5
import Derived.Test.YtohcneeihdkfgaaGreatDoorQ2
import Derived.Test.YtohcneeihdkfgaaGreatDoorQ22
import Derived.Test.YtohcneeihdkfgaaGreatDoorQ8
namespace Go.Proofs.YtohcneeihdkfgaaGreatDoor.EN
open Go.ChangeShapes Go.WideShapes Go.ChangeAt Go.RowKit
theorem qM (n t:Nat):(List.replicate n 0).getD t 0=0:=by
 rw[ak,eT];split<;>rfl
theorem getD_set_ne {l:List Nat} {i t x:Nat} (h:i≠t):(l.set i x).getD t 0=l.getD t 0:=by
 rw[ak,ak,aY h]
theorem sE (x y s:Nat) (L:x<2^64) (K:s≤63) (M:y<2^s):∃ v lo hi:Nat,
  IntKind.u64.wrap ((x:Int)*2^s)=v∧bits .or .u64 (y:Int) (v:Int)=lo∧x/2^(64-s)=hi∧lo<2^64∧hi<2^s∧hi<2^64∧y+x*2^s=lo+2^64*hi:=by
 have R:2^s≤2^63:=ao eX K;have A:=ae s;have D:x*2^s<2^64*2^s:=av L A;have e0:2^64=2^(64-s)*2^s:=by rw[← ah];congr 1;omega
 have B:x*2^s%2^64=(x%2^(64-s))*2^s:=by rw[e0,dj]
 have F:x/2^(64-s)=x*2^s/2^64:=by rw[e0,cW _ _ A]
 have I:(x%2^(64-s))*2^s+2^s≤2^64:=by
  have h1:x%2^(64-s)<2^(64-s):=aW _ (ae _);have h2:(x%2^(64-s)+1)*2^s≤2^(64-s)*2^s:=au _ h1;rw[← ah,show 64-s+s=64 from by omega,aL,aT] at h2;exact h2
 have J:x*2^s%2^64%2^s=0:=by rw[B];exact eS _ _
 have N:x*2^s/2^64<2^s:=Nat.div_lt_of_lt_mul D;have E:((x:Int)*2^s)=((x*2^s:Nat):Int):=by push_cast;rfl
 rw[← B] at I;rw[E,F];clear e0 D B E F;generalize O:x*2^s=v at *;generalize C:2^s=S at *;refine⟨v%2^64,v%2^64+y,v/2^64,?_,?_,rfl,by omega,by omega,by omega,by omega⟩
 ·rw[IntKind.wrap_u64];omega
 ·rw[u64_or_nat _ _ eX eX,dN];subst C;rw[nat_join s _ y J M]
/-- One step of a shift to the left. -/
theorem left_step {cs l:List Nat} {i q s n lo hi:Nat} (C:i+q+1<cs.length) (B:n=64*q+s)
  (hv:val (cs.take (i+q+1))=val (l.take i)*2^n) (A:cs.getD (i+q) 0+l.getD i 0*2^s=lo+2^64*hi):
  val (((cs.set (i+q) lo).set (i+q+1) hi).take (i+1+q+1))=val (l.take (i+1))*2^n:=by
 rw[show i+1+q+1=i+q+1+1 from by omega,fK (by rw[aF];exact C),fK eX,fi l,aL,← hv,fi cs];rw[show 2^(64*i)*l.getD i 0*2^n=2^(64*(i+q))*(l.getD i 0*2^s) from by
  rw[B,aE 64 i q,ah,ah];rw[ar,ar,db (l.getD i 0)]]
 have h3:2^(64*(i+q))*(cs.getD (i+q) 0+l.getD i 0*2^s)=2^(64*(i+q))*(lo+2^64*hi):=by rw[A]
 rw[aE (2^(64*(i+q))),aE (2^(64*(i+q)))] at h3;rw[show 64*(i+q+1)=64*(i+q)+64 from by omega,ah,ar];omega
theorem jq (w:World) (va:Value) (a n K:Nat) (A:K≤500000) (hn:n≤10000000) (ha:Num w va a) (J:a<2^(64*K)):
  Calls Tryz.prog 163 #[va,.int .i64 (n:Int)] w (fo w (a*2^n)):=by
 by_cases W:n=0
 ·subst W;rw[show ((0:Nat):Int)=0 from rfl];have d:Hid (Num w va a):=ha;clear ha J;go_enter Tryz.func163,Tryz.ntmps163;go_wp2_with fail;go_ret;exact⟨va,rfl,ad _,(by rw[cf,bV];exact d.out)⟩
 have bm:((n:Int)==0)=false:=by simp;omega
 clear W;obtain⟨l,hl,ai,rfl⟩:=ha;have bz:=fg ai J;clear J;have Y:=hl.1;obtain⟨pa,ca,rfl,bq,Z⟩:=fF hl;have d:=hi9 Z;clear Z hl;generalize S:l.length=j at *;have HN:=hi9 S;clear S;have bs:(n:Int)/64=((n/64:Nat):Int):=by omega
 have al:(n:Int)%64=((n%64:Nat):Int):=by omega
 have X:n=64*(n/64)+n%64:=by omega
 have hs:((n%64:Nat):Int)≤63:=by omega
 have hq:((n/64:Nat):Int)≤312500:=by omega
 generalize n/64=q at *;generalize n%64=s at *;have af:=hi9 X;have cb:(n:Int)≤10000000:=by omega
 clear X hn;have an:=gV (j+q+1) eX;rw[show ((j+q+1:Nat):Int)=(j:Int)+q+1 from by omega] at an;go_enter Tryz.func163,Tryz.ntmps163;go_wp2_with fail;rw[al]
 go_loopw [25] (fun vk wr=>∃ (i:Nat) (cs:List Nat),i≤j∧vk= .int .i64 i∧cs.length=j+q+1∧Own wr w.heap.size cs∧val (cs.take (i+q+1))=val (l.take i)*2^n∧cs.getD (i+q) 0<2^s∧(∀ t,i+q<t→cs.getD t 0=0)∧G w wr) (fun vk _=>j-(intOf vk).toNat)
 case atStart=>exact⟨0,List.replicate (j+q+1) 0,bU _,rfl,by simp,gh w (j+q+1) 90,by rw[List.take_replicate,mP];simp [val],by rw[qM];exact ae _,fun t _=>qM _ _,(ad _).alloc _⟩
 case round=>
  obtain⟨i,cs,hi,rfl,O,F,I,E,c,hG⟩:=hrel;have HV:=hi9 I;have B:=hi9 O;have L:=hi9 F;have HL:=hi9 E;have HU:=hi9 c;clear I O F E c;by_cases am:i<j
  ·obtain⟨b1,o1,rfl,N,C⟩:=d.out i am;have hx:=ff Y i;have bn:=hG.cell (p:=⟨b1,o1+i,none⟩) N C;clear C N;have ho:=Own.cell (w:=wr) (b:=w.heap.size) (l:=cs) (i:=i+q) L.out (by rw[B.out];omega);have hf:=Own.frozen (w:=wr) (b:=w.heap.size) (l:=cs) (i:=i+q) L.out (by rw[B.out];omega);have bi:=Own.cell (w:=wr) (b:=w.heap.size) (l:=cs) (i:=i+q+1) L.out (by rw[B.out];omega);have bu:=Own.frozen (w:=wr) (b:=w.heap.size) (l:=cs) (i:=i+q+1) L.out (by rw[B.out];omega);have hu:=HU.out (i+q+1) eX;rw[hu] at bi;obtain⟨v,lo,hi2,cc,cd,bl,U,R,D,he⟩:=sE _ _ s hx eX HL.out;have y:=hi9 U;have o:=hi9 R;have m:=hi9 D;have HS:Hid _:=left_step (by rw[B.out];omega) af.out HV.out he;have k:Hid _:=(show ((l.getD i 0:Nat):Int)/2^(64-s)=(hi2:Int) by rw[← bl];push_cast;rfl);generalize l.getD i 0=x at *;generalize cs.getD (i+q) 0=z at *;have ci:IntKind.i64.wrap ((i:Int)+q)=(i:Int)+q:=by rw[IntKind.wrap_i64];omega
   have ce:((i:Int)+q).toNat=i+q:=by omega
   have bv:(0:Int)≤(i:Int)+q:=by omega
   have bw:(i:Int)+q<(j:Int)+q+1:=by omega
   clear U R D he hu;go_wp2_with fail;refine wp_region_any eZ ?_;refine fP (i:=0) (v:= ?_) rfl eZ eZ eZ (fun _ _ _ h=>h) (Or.inl ⟨by rfl,?_⟩) ?_;rotate_left
   ·intro M;first|(go_simp;done)|(go_simp;with_reducible rfl)
   try simp only[Act.put,aq,ay,az]
   refine fP (i:=1) (v:= ?_) rfl eZ eZ eZ (fun _ _ _ h=>h) (Or.inl ⟨by rfl,?_⟩) ?_;rotate_left
   ·intro M;first|(go_simp;done)|(go_simp;with_reducible rfl)
   try simp only[Act.put,aq,ay,az]
   refine fP (i:=2) (v:= ?_) rfl eZ eZ eZ (fun _ _ _ h=>h) (Or.inl ⟨by rfl,?_⟩) ?_;rotate_left
   ·intro M;first|(go_simp;done)|(go_simp;with_reducible rfl)
   try simp only[Act.put,aq,ay,az]
   refine fP (i:=6) (v:= ?_) rfl eZ eZ eZ (fun _ _ _ h=>h) (Or.inl ⟨by rfl,?_⟩) ?_;rotate_left
   ·intro M;first|(go_simp;done)|(go_simp;with_reducible rfl)
   try simp only[Act.put,aq,ay,az]
   refine fP (i:=7) (v:= ?_) rfl eZ eZ eZ (fun _ _ _ h=>h) (Or.inl ⟨by rfl,?_⟩) ?_;rotate_left
   ·intro M;first|(go_simp;done)|(go_simp;with_reducible rfl)
   try simp only[Act.put,aq,ay,az]
   refine fP (i:=3) (v:= ?_) rfl eZ eZ eZ (fun _ _ _ h=>h) (Or.inl ⟨by rfl,?_⟩) ?_;rotate_left
   ·intro M;first|(go_simp;done)|(go_simp;with_reducible rfl)
   try simp only[Act.put,aq,ay,az]
   refine fP (i:=8) (v:= ?_) rfl eZ eZ eZ (fun _ _ _ h=>h) (Or.inl ⟨by rfl,?_⟩) ?_;rotate_left
   ·intro M;first|(go_simp;done)|(go_simp;with_reducible rfl)
   try simp only[Act.put,aq,ay,az]
   refine wpAny_ready (rs:=[4]) eZ fX ?_;refine AllReady.cons rfl (fun K A=> ?_) AllReady.nil;go_simp;refine A _ _ ?_;clear K A;refine wpAny_ready (rs:=[5]) eZ fX ?_;refine AllReady.cons rfl (fun K A=> ?_) AllReady.nil;go_simp;refine A _ _ ?_;clear K A;refine wpAny_ready (rs:=[9]) eZ fX ?_;refine AllReady.cons rfl (fun K A=> ?_) AllReady.nil;go_simp;refine A _ _ ?_;clear K A;refine wpAny_ready (rs:=[10]) eZ fX ?_;refine AllReady.cons rfl (fun K A=> ?_) AllReady.nil;go_simp;refine A _ _ ?_;clear K A;refine wpAny_ready (rs:=[11]) eZ fX ?_;refine AllReady.cons rfl (fun K A=> ?_) AllReady.nil;go_simp;refine A _ _ ?_;clear K A;refine wpAny_done eZ ?_ _;go_wp2_with fail
   go_roundw
   case rel=>
    rw[k.out];exact⟨i+1,(cs.set (i+q) lo).set (i+q+1) hi2,by omega,by go_num,by rw[aF,aF];exact B.out,Own.grow (Own.set (Own.set L.out (i+q) lo (by rw[B.out];omega) y.out) (i+q+1) hi2 (by rw[aF,B.out];omega) m.out) (ad _).drew,HS.out,by rw[show i+1+q=i+q+1 from by omega,fB (by rw[aF,B.out];omega)];exact o.out,fun t ht=>by rw[getD_set_ne eX,getD_set_ne eX];exact HU.out t eX,((hG.setCell (p:=⟨w.heap.size,i+q,none⟩) (aI _) _).setCell (p:=⟨w.heap.size,i+q+1,none⟩) (aI _) _).drew⟩
   case measure=>simp only[intOf];omega
  ·obtain rfl:i=j:=by omega
   have hT:=hi9 (gi (L.out:Own wr w.heap.size cs) B.out eX);have q2:val cs=val l*2^n:=by
    have h1:=HV.out
    rwa[aH (by rw[B.out];omega),aH (by rw[HN.out];omega)] at h1
   rw[q2] at hT;clear q2;go_wp2_with fail;refine Calls.mono (P:=Tryz.prog) hT.out ?_;rintro e w1 ⟨v1,rfl,ag,ap⟩;go_wp2_with fail;go_ret;exact⟨v1,rfl,ab hG ag,ap⟩
theorem rR (l:List Nat):val l=l.getD 0 0+2^64*val (l.drop 1):=by
 cases l with
 |nil=>rfl
 |cons d l=>rfl
theorem iD {l:List Nat} (h:okw l) (i:Nat):val (l.drop i)=val l/2^(64*i):=by
 by_cases hi:i≤l.length
 ·have h1:=fY h i hi;have h2:=gk l i hi;rw[h2,cZ _ _ (ae _),b9 h1,aK]
 ·rw[aR eX];have h1:=fO h;have h2:2^(64*l.length)≤2^(64*i):=ao eX eX;rw[b9 eX];rfl
/-- The 64 digits in twos from place n on. -/
theorem q0s {l:List Nat} (h:okw l) {n i s:Nat} (B:n=64*i+s) (C:s≤63):
  val l/2^n%2^64=(l.getD i 0+2^64*l.getD (i+1) 0)/2^s%2^64:=by
 have h1:val l/2^n=val (l.drop i)/2^s:=by rw[iD h,B,ah,bR]
 have h2:=rR (l.drop i);have h3:=rR ((l.drop i).drop 1);have g0:(l.drop i).getD 0 0=l.getD i 0:=by rw[getD_drop];rfl
 have g1:((l.drop i).drop 1).getD 0 0=l.getD (i+1) 0:=by rw[getD_drop,getD_drop]
 rw[g0] at h2;rw[g1] at h3;rw[h1,h2,h3];generalize l.getD i 0=x;generalize l.getD (i+1) 0=y;generalize val (((l.drop i).drop 1).drop 1)=V;have e0:2^64=2^s*2^(64-s):=by rw[← ah];congr 1;omega
 have A:x+2^64*(y+2^64*V)=(x+2^64*y)+2^s*(2^64*(2^(64-s)*V)):=by
  have:2^64*(2^64*V)=2^s*(2^64*(2^(64-s)*V)):=by
   rw[db (2^s),← ar (2^s),← e0]
  omega
 rw[A,cZ _ _ (ae _),dh]
theorem q73 (x y s:Nat) (K:x<2^64) (N:s≤63):∃ lo v u:Nat,
  x/2^s=lo∧IntKind.u64.wrap ((y:Int)*2^(64-s))=v∧bits .or .u64 (lo:Int) (v:Int)=u∧(x+2^64*y)/2^s%2^64=u:=by
 have A:=ae s;have J:=ae (64-s);have e0:2^64=2^s*2^(64-s):=by rw[← ah];congr 1;omega
 have C:(x+2^64*y)/2^s=x/2^s+y*2^(64-s):=by
  rw[e0,ar,cZ _ _ A,aJ y]
 have B:y*2^(64-s)%2^64=(y%2^s)*2^(64-s):=by rw[e0,dj]
 have E:x/2^s<2^(64-s):=Nat.div_lt_of_lt_mul (by rw[← e0];exact K);have F:(y%2^s)*2^(64-s)+2^(64-s)≤2^64:=by
  have h1:y%2^s<2^s:=aW _ A;have h2:(y%2^s+1)*2^(64-s)≤2^s*2^(64-s):=au _ h1;rw[← e0,aL,aT] at h2;exact h2
 have I:y*2^(64-s)%2^64%2^(64-s)=0:=by rw[B];exact eS _ _
 have D:((y:Int)*2^(64-s))=((y*2^(64-s):Nat):Int):=by push_cast;rfl
 rw[← B] at F;rw[D,C];clear e0 C B D;have L:2^(64-s)≤2^64:=ao eX eX;generalize M:y*2^(64-s)=v at *;generalize x/2^s=lo at *;refine⟨lo,v%2^64,v%2^64+lo,rfl,?_,?_,?_⟩
 ·rw[IntKind.wrap_u64];omega
 ·rw[u64_or_nat _ _ eX eX,dN,nat_join (64-s) _ lo I E]
 ·generalize 2^(64-s)=r at *;omega
theorem rS (w:World) (va:Value) (l:List Nat) (n:Nat) (hn:n≤100000000) (U:Sl w va l) (o:l.length≤1040000):
  Calls Tryz.prog 239 #[va,.int .i64 (n:Int)] w fun e w'=>e= .returned (.int .u64 ((val l/2^n%2^64:Nat):Int))∧G w w':=by
 have A:=U.1;obtain⟨pa,ca,rfl,i,K⟩:=fF U;have D:=hi9 K;clear K U;generalize I:l.length=j at *;have L:=hi9 I;clear I;have k:(n:Int)/64=((n/64:Nat):Int):=by omega
 have m:(n:Int)%64=((n%64:Nat):Int):=by omega
 have J:n=64*(n/64)+n%64:=by omega
 have hs:((n%64:Nat):Int)≤63:=by omega
 have hq:((n/64:Nat):Int)≤10000000:=by omega
 generalize n/64=q at *;generalize n%64=s at *;rw[q0s A J eX];have af:(n:Int)≤100000000:=by omega
 obtain⟨lo,v,u,h1,h2,h3,O⟩:=q73 (l.getD q 0) (l.getD (q+1) 0) s (ff A q) eX;rw[O];have hx:=ff A q;have S:((l.getD q 0:Nat):Int)/2^s=(lo:Int):=by rw[← h1];push_cast;rfl
 have B:l.getD (q+1) 0=0→u=lo:=by
  intro e;rw[e,bG,aP,h1] at O;have:lo≤l.getD q 0:=by rw[← h1];exact aX _ _
  omega
 have C:l.getD q 0=0→lo=0:=by
  intro e;rw[e,Nat.zero_div] at h1;exact h1.symm
 clear h1 O J hn;by_cases Y:q<j
 ·obtain⟨b1,o1,rfl,F,c⟩:=D.out q Y;by_cases h6:q+1<j
  ·obtain⟨b2,o2,N,R,d⟩:=D.out (q+1) h6;injection N with N;injection N with W X;subst W X;have E:(q:Int)+1<j:=by omega
   generalize l.getD q 0=x at *;generalize l.getD (q+1) 0=y at *;clear F R D A;go_enter Tryz.func239,Tryz.ntmps239;go_wp2_with fail;go_ret;exact⟨rfl,ad _⟩
  ·have M:=B (by rw[ak,bo (by rw[L.out];omega)];rfl);subst M;have E:¬ (q:Int)+1<j:=by omega
   clear B C h2 h3 h6;generalize l.getD q 0=x at *;clear F D A;go_enter Tryz.func239,Tryz.ntmps239;go_wp2_with fail;go_ret;exact⟨rfl,ad _⟩
 ·have M:=B (by rw[ak,bo (by rw[L.out];omega)];rfl);have e0:=C (by rw[ak,bo (by rw[L.out];omega)];rfl);subst M;subst e0;have Z:¬ (q:Int)<j:=by omega
  have E:¬ (q:Int)+1<j:=by omega
  clear B C h2 h3 S hx D A;go_enter Tryz.func239,Tryz.ntmps239;go_wp2_with fail;go_ret;exact⟨rfl,ad _⟩
/-- One step of a shift to the right. -/
theorem right_step {zs:List Nat} {A n k N u:Nat} (B:k<N) (C:zs.length=N) (hv:val (zs.take k)=A/2^n%2^(64*k)) (hu:u=A/2^(n+64*k)%2^64):
  val ((zs.set k u).take (k+1))=A/2^n%2^(64*(k+1)):=by
 rw[fK eX,hv,hu,show 64*(k+1)=64*k+64 from by omega,ah (2) (64*k) 64,eD,ah,bR]
theorem q1R {A n q j:Nat} (B:A<2^(64*j)) (C:64*q≤n) (D:q≤j):A/2^n%2^(64*(j-q))=A/2^n:=by
 apply bh;apply Nat.div_lt_of_lt_mul;rw[← ah];exact aj B (ao eX eX)
set_option maxRecDepth 20000 in
theorem iN (w:World) (va:Value) (a n K:Nat) (hK:K≤500000) (hn:n≤10000000) (Z:Num w va a) (E:a<2^(64*K)):
  Calls Tryz.prog 165 #[va,.int .i64 (n:Int)] w (fo w (a/2^n)):=by
 by_cases S:n=0
 ·subst S;rw[show ((0:Nat):Int)=0 from rfl];have HA:Hid (Num w va a):=Z;clear Z E;go_enter Tryz.func165,Tryz.ntmps165;go_wp2_with fail;go_ret;exact⟨va,rfl,ad _,(by rw[cf,dU];exact HA.out)⟩
 have af:((n:Int)==0)=false:=by simp;omega
 clear S;obtain⟨l,U,c,rfl⟩:=Z;have bn:=fg c E;clear E;have J:=fO U.1;have HL:Hid _:=fun (w':World) (g:G w w') (t:Nat) (ht:t≤100000000)=>rS w' va l t ht (Sl.G U g) eX;obtain⟨pa,ca,rfl,al,-⟩:=fF U;clear U;generalize O:l.length=j at *;have HN:=hi9 O;clear O;have am:(n:Int)/64=((n/64:Nat):Int):=by omega
 have o:64*(n/64)≤n:=by omega
 have ag:n<64*(n/64)+64:=by omega
 have hq:((n/64:Nat):Int)≤312500:=by omega
 generalize n/64=q at *;have bs:(n:Int)≤10000000:=by omega
 by_cases h:q≤j
 ·have HE:=hi9 (q1R J o h);obtain⟨N,hN⟩:∃ N,N=j-q:=⟨_,rfl⟩;rw[← hN] at HE;have bl:(j:Int)-q=N:=by omega
  have d:¬ j<q:=by omega
  have an:¬ (j:Int)-q<0:=by omega
  have ap:¬ (0:Int)>(j:Int)-q:=by omega
  have bi:¬ (0:Int)>(N:Int):=by omega
  have ai:(N:Int)≤500000:=by omega
  have R:=gV N eX;clear J hN;go_enter Tryz.func165,Tryz.ntmps165;go_wp2_with fail
  go_loopw [19] (fun y wr=>∃ (k:Nat) (zs:List Nat),k≤N∧y= .int .i64 k∧zs.length=N∧Own wr w.heap.size zs∧val (zs.take k)=val l/2^n%2^(64*k)∧G w wr) (fun y _=>N-(intOf y).toNat)
  case atStart=>exact⟨0,List.replicate N 0,bU _,rfl,by simp,gh w N 90,by simp [val,Nat.mod_one],(ad _).alloc _⟩
  case round=>
   obtain⟨k,zs,hk,rfl,D,B,C,Y⟩:=hrel;have HV:=hi9 C;have M:=hi9 D;have HO:=hi9 B;by_cases m:k<N
   ·have HW:=hi9 (HL.out wr Y (n+64*k) eX);have hu:val l/2^(n+64*k)%2^64<2^64:=aW _ (ae _);have HS:=hi9 (right_step m D C (u:=val l/2^(n+64*k)%2^64) rfl);generalize val l/2^(n+64*k)%2^64=u at *;rw[show ((n+64*k:Nat):Int)=(n:Int)+64*k from by omega] at HW;have HU:=hi9 hu;have bm:(k:Int)≤500000:=by omega
    clear C D B hu;go_wp2_with fail;refine Calls.mono (P:=Tryz.prog) HW.out ?_;rintro e w1 ⟨rfl,I⟩;have A:=Own.grow HO.out I;have hc:=Own.cell (i:=k) A (by rw[M.out];omega);have hf:=Own.frozen (i:=k) A (by rw[M.out];omega);have X:Hid _:=Own.set A k u (by rw[M.out];omega) HU.out;have W:=hi9 ((ab Y I).setCell (p:=⟨w.heap.size,k,none⟩) (aI _) (.int .u64 (u:Int)));generalize zs.getD k 0=z at *;clear A I;go_wp2_with fail
    go_roundw
    case rel=>exact⟨k+1,zs.set k u,by omega,by go_num,by rw[aF];exact M.out,X.out,HS.out,W.out⟩
    case measure=>simp only[intOf];omega
   ·obtain rfl:k=N:=by omega
    have hT:=hi9 (gi B D eX);have q2:val zs=val l/2^n:=by
     have h1:=HV.out;rw[aH (by rw[M.out];omega),HE.out] at h1;exact h1
    rw[q2] at hT;clear q2 C D B;go_wp2_with fail;refine Calls.mono (P:=Tryz.prog) hT.out ?_;rintro e w1 ⟨s,rfl,F,L⟩;go_wp2_with fail;go_ret;exact⟨s,rfl,ab Y F,L⟩
 ·have hz:val l/2^n=0:=by
   apply b9;have:2^(64*j)≤2^n:=ao eX eX;omega
  rw[hz];have d:j<q:=by omega
  have bq:max ((j:Int)-q) 0=0:=by omega
  have R:=gV 0 eX;rw[show ((0:Nat):Int)=0 from rfl] at R;have HT:Hid _:=gi (n:=0) (cs:=[]) (by have:=gh w 0 90;simpa using this) rfl eX;clear J h hz;go_enter Tryz.func165,Tryz.ntmps165;go_wp2_with fail;refine wp_loop_rounds 1 ?_;rw[rounds_succ];go_wp2_with fail;refine Calls.mono (P:=Tryz.prog) HT.out ?_;rintro e w1 ⟨s,rfl,F,L⟩;go_wp2_with fail;go_ret;exact⟨s,rfl,ab ((ad _).alloc _) F,L⟩
/-- How many digits in twos a number has. -/
def blen (a:Nat):Nat:=if a=0 then 0 else a.log2+1
theorem ic {x:Nat} (A:x≠0) (C:x<2^64):Lib.bitLen x=x.log2+1:=by
 have h1:=(dS (k:=x.log2) A).1 rfl;have h2:=Lib.bitLen_shift x.log2 x h1.1 C;have h3:x/2^x.log2=1:=by
  have B:=h1.2;rw[bH] at B;have D:=ae x.log2;apply Nat.div_eq_of_lt_le
  ·omega
  ·omega
 rw[h3,show Lib.bitLen 1=1 from by decide] at h2;exact h2
theorem jL {l:List Nat} {n:Nat} (h:canon l) (A:l.length=n+1):l.getD n 0≠0:=by
 have B:l≠[]:=by intro e;rw[e] at A;simp at A
 have:=h.2 B;rw[List.getLast_eq_getElem] at this;rw[ak,aQ eX];simpa [A] using this
theorem q2j {l:List Nat} {n:Nat} (h:canon l) (D:l.length=n+1):blen (val l)=64*n+Lib.bitLen (l.getD n 0):=by
 have A:=jL h D;have E:=ff h.1 n;have h3:=fT (l:=l) (k:=n) eX;rw[aR eX] at h3;have F:=fY h.1 n eX;simp only[val,bG,aP] at h3;rw[ic A E];have h1:=(dS (k:=(l.getD n 0).log2) A).1 rfl;generalize l.getD n 0=x at *;generalize val (l.take n)=T at *;have J:=ae (64*n);have C:2^(64*n)*2^x.log2≤2^(64*n)*x:=aB _ h1.1;have h6:2^(64*n)*(x+1)≤2^(64*n)*2^(x.log2+1):=aB _ h1.2;rw[← ah] at C h6;rw[aE] at h6;have I:=ae (64*n+x.log2);have B:val l≠0:=by omega
 unfold blen;rw[if_neg B,(dS B).2 ⟨(by omega:2^(64*n+x.log2)≤val l),(by rw[show 64*n+x.log2+1=64*n+(x.log2+1) from by omega];omega)⟩];omega
theorem kg (w:World) (va:Value) (a K:Nat) (s:K≤1000000) (U:Num w va a) (D:a<2^(64*K)):
  Calls Tryz.prog 162 #[va] w fun e k=>e= .returned (.int .i64 (blen a))∧G w k:=by
 obtain⟨l,I,C,rfl⟩:=U;have d:=fg C D;clear D;have B:=I.1;obtain⟨pa,o,rfl,Z,F⟩:=fF I;have M:=hi9 F;clear F I;generalize A:l.length=j at *;have N:=hi9 A;by_cases E:j=0
 ·subst E;have J:l=[]:=aN N.out;subst J;rw[show blen (val [])=0 from rfl];clear A;go_enter Tryz.func162,Tryz.ntmps162;go_wp2_with fail;go_ret;exact⟨rfl,ad _⟩
 ·obtain⟨n,R⟩:∃ n,j=n+1:=⟨j-1,by omega⟩;rw[q2j C (A.trans R)];obtain⟨m,o1,rfl,S,Y⟩:=M.out n eX;have L:=ff B n;have O:=hi9 (Tryz.bits_Len64 (l.getD n 0:Int) w eX eX);rw[dw] at O;generalize l.getD n 0=x at *;have hle:Lib.bitLen x≤64:=by
   by_cases h:x=0
   ·subst h;decide
   ·rw[ic h L];have:=(cT h).2 L;omega
  generalize Lib.bitLen x=u at *;have W:(n:Int)≤1000000:=by omega
  have c:(j:Int)-1=n:=by omega
  have i:n<j:=by omega
  have X:(u:Int)≤64:=by omega
  have y:((j:Int)==0)=false:=by simp;omega
  clear A R E N C B M L hle;go_enter Tryz.func162,Tryz.ntmps162;go_wp2_with fail;refine Calls.mono (P:=Tryz.prog) O.out ?_;rintro e w1 ⟨rfl,rfl⟩;go_wp2_with fail;go_ret;exact⟨fU eX,ad _⟩
theorem lI:∀ a:Nat,0<a→∃ j k,a=(2*j+1)*2^k:=by
 intro a
 induction a using Nat.strongRecOn with
 |ind a A=>
  intro h;by_cases B:a%2=1
  ·exact⟨a/2,0,by omega⟩
  ·obtain⟨j,k,e⟩:=A (a/2) eX eX;exact⟨j,k+1,by rw[bH,← ar,← e];omega⟩
theorem qX:∀ (l:List Nat),val l≠0→∃ i,i<l.length∧(∀ t,t<i→l.getD t 0=0)∧l.getD i 0≠0
 |[],h=>absurd rfl h
 |d::l,h=>by
  by_cases A:d=0
  ·subst A;have B:val l≠0:=fun e=>h (by show 0+2^64*val l=0;rw[e]);obtain⟨i,h1,h2,h3⟩:=qX l B;refine⟨i+1,by simp;omega,fun t C=> ?_,h3⟩;cases t with
   |zero=>rfl
   |succ t=>exact h2 t eX
  ·exact⟨0,by simp,fun t C=>by omega,A⟩
theorem take_zero {l:List Nat}:∀ {i:Nat},(∀ t,t<i→l.getD t 0=0)→val (l.take i)=0
 |0,_=>by simp [val]
 |i+1,h=>by
  rw[fi,take_zero (fun t A=>h t eX),h i eX];simp
theorem q33 {a b x y:Nat} (h:(2*a+1)*2^x=(2*b+1)*2^y):x=y:=by
 have key:∀ {a b x y:Nat},(2*a+1)*2^x=(2*b+1)*2^y→x<y→False:=by
  intro a b x y h B;have e:2^y=2*2^(y-x-1)*2^x:=by rw[← dT,← ah];congr 1;omega
  rw[e,← ar] at h;have:=Nat.mul_right_cancel (ae x) h;have h3:(2*b+1)*(2*2^(y-x-1))=2*((2*b+1)*2^(y-x-1)):=by ac_rfl
  omega
 rcases eN x y with A|A|A
 ·exact(key h A).elim
 ·exact A
 ·exact(key h.symm A).elim
theorem q5i {l:List Nat} {i j k A t:Nat} (hi:i<l.length) (E:∀ t,t<i→l.getD t 0=0) (D:l.getD i 0=(2*A+1)*2^t) (F:t<64) (h:val l=(2*j+1)*2^k):k=64*i+t:=by
 have h1:=fT hi;rw[take_zero E,D,aK] at h1;have e:2^64=2^(64-t)*2^t:=by rw[← ah];congr 1;omega
 have B:2^(64-t)=2*2^(64-t-1):=by rw[← dT];congr 1;omega
 have C:2^(64*i)*((2*A+1)*2^t+2^64*val (l.drop (i+1)))=(2*(A+2^(64-t-1)*val (l.drop (i+1)))+1)*2^(64*i+t):=by
  rw[e,B,ah];generalize val (l.drop (i+1))=V;generalize 2^(64*i)=P;generalize 2^t=T;generalize 2^(64-t-1)=S;rw[show (2*A+1)*T+2*S*T*V=(2*(A+S*V)+1)*T from by
   rw[show 2*S*T*V=2*(S*V)*T from by ac_rfl,← aL]
   congr 1
   omega]
  ac_rfl
 rw[C,h] at h1;exact q33 h1
theorem me (w:World) (va:Value) (a j k K:Nat) (hK:K≤1000000) (F:Tab w) (ha:Num w va a) (C:a<2^(64*K)) (S:a=(2*j+1)*2^k):
  Calls Tryz.prog 161 #[va] w fun e w'=>e= .returned (.int .i64 k)∧G w w':=by
 obtain⟨l,W,D,rfl⟩:=ha;have al:=fg D C;clear C;have B:=W.1;obtain⟨pa,ca,rfl,ai,E⟩:=fF W;have J:=hi9 E;clear E W;have y:val l≠0:=by rw[S];exact bK eX (Nat.ne_of_gt (ae k))
 obtain⟨i,hi,d,R⟩:=qX l y;have I:=ff B i;obtain⟨jj,t,A⟩:=FT.odd_part _ R;have Z:t<64:=by rw[A] at I;exact FT.tz_lt I
 have U:=q5i hi d A Z S;have o:Hid _:=fun w F=>tz_c (l.getD i 0) jj t w F I A;obtain⟨b1,o1,rfl,M,O⟩:=J.out i hi;have s:Hid (∀ q,q<i→w.cell? ⟨b1,o1+q,none⟩=some (.int .u64 0)):=by
  intro q hq;obtain⟨b2,o2,e,-,N⟩:=J.out q eX;injection e with e;injection e with e1 e2;subst e1;subst e2;rw[d q hq] at N;exact N
 generalize l.getD i 0=x at *;have c:((x:Int)==0)=false:=by simp;exact R
 generalize X:l.length=n at *;have HK:Hid (k=64*i+t):=U;have HI:Hid (i<n):=hi;have am:(n:Int)≤1000000:=by omega
 clear R A I d y S U B D J X;go_enter Tryz.func161,Tryz.ntmps161;go_wp2_with fail
 go_loop [3] (fun m=>∃ q:Nat,q≤i∧m= .int .i64 q) (fun m=>i-(intOf m).toNat)
 case atStart=>exact⟨0,by omega,rfl⟩
 case round=>
  obtain⟨q,hq,rfl⟩:=hrel;have an:(q:Int)<n:=by have:=HI.out;omega
  by_cases Y:q=i
  ·subst Y;have L:=hi9 (o.out w F);clear s o F M;go_wp2_with fail;refine Calls.mono (P:=Tryz.prog) L.out ?_;rintro e w1 ⟨rfl,g1⟩;have U:=HK.out;have af:(t:Int)<64:=by omega
   go_wp2_with fail;go_ret;exact⟨fU eX,g1⟩
  ·have N:=s.out q eX;have ag:((0:Int)==0)=true:=rfl;clear O c;go_wp2_with fail
   go_round
   case rel=>exact⟨q+1,by omega,by go_num⟩
   case measure=>simp [intOf];omega
/-- One half digit: h and u2 by top and next, in digits of B. -/
theorem half_start {B h top next u2:Nat} (A:0<top) (hu:u2<B):h*B+u2<(h/top+1)*(top*B+next):=by
 have h1:=Nat.lt_div_mul_add A (a:=h);have h2:h+1≤(h/top+1)*top:=by rw[aL,aT];omega
 generalize h/top=g at *;have h3:(h+1)*B≤(g+1)*top*B:=au _ h2;have C:(g+1)*(top*B+next)=(g+1)*top*B+(g+1)*next:=by rw[aE,ar]
 have D:(h+1)*B=h*B+B:=by rw[aL,aT]
 omega
theorem q0F {B g r h top next:Nat} (A:g*top+r=h):g*(top*B+next)+r*B=h*B+g*next:=by
 rw[← A,aE,aL,ar];omega
theorem oB {B g r h top next u2:Nat} (A:g*top+r=h) (C:r*B+u2<g*next):h*B+u2<g*(top*B+next):=by
 have:=q0F (B:=B) (next:=next) A;omega
theorem ld {B g h top next u2:Nat} (A:h<top*B+next) (hu:u2<B) (C:B≤g):h*B+u2<g*(top*B+next):=by
 have h1:B*(top*B+next)≤g*(top*B+next):=au _ C;have h2:(h+1)*B≤(top*B+next)*B:=au _ A;rw[aJ B] at h1;rw[aL,aT] at h2;omega
theorem lE {B g r h top next u2:Nat} (A:g*top+r=h) (C:g*next≤r*B+u2):g*(top*B+next)≤h*B+u2:=by
 have:=q0F (B:=B) (next:=next) A;omega
theorem qO {B g r h top next u2:Nat} (D:h<top*B+next) (F:next<B) (E:g*top+r=h) (A:B≤r):g<B∧g*next≤r*B+u2:=by
 have h1:g*top<B*top:=by rw[aJ B top];omega
 have h2:g<B:=bJ h1;have h3:g*next≤B*B:=bF eX eX
 have C:B*B≤r*B:=au _ A;exact⟨h2,by omega⟩
theorem mZ {B g h top next u2:Nat} (A:h<top*B+next) (hu:u2<B) (C:g*(top*B+next)≤h*B+u2):g<B:=by
 by_cases h:g<B
 ·exact h
 ·have:=ld (next:=next) A hu (by omega:B≤g);omega
/-- The words that the two halves begin with. -/
theorem q4j (hi lo y s:Nat) (S:hi<y) (d:lo<2^64) (k:s≤63) (O:2^63≤y*2^s) (E:y*2^s<2^64):∃ Y H L h top next U u1 u0:Nat,
  IntKind.u64.wrap ((y:Int)*2^s)=Y∧(Y:Int)/4294967296=top∧bits .and .u64 (Y:Int) 4294967295=next∧IntKind.u64.wrap ((hi:Int)*2^s)=H∧(lo:Int)/2^(64-s)=L∧bits .or .u64 (H:Int) (L:Int)=h∧
  IntKind.u64.wrap ((lo:Int)*2^s)=U∧(U:Int)/4294967296=u1∧bits .and .u64 (U:Int) 4294967295=u0∧
  Y=y*2^s∧Y=top*2^32+next∧next<2^32∧2^31≤top∧top<2^32∧h<Y∧u1<2^32∧u0<2^32∧h*2^64+(u1*2^32+u0)=(hi*2^64+lo)*2^s:=by
 obtain⟨P,A⟩:∃ P,P=2^s:=⟨_,rfl⟩;obtain⟨R,K⟩:∃ R,R=2^(64-s):=⟨_,rfl⟩;have B:P*R=2^64:=by rw[A,K,← ah];congr 1;omega
 have J:0<P:=by rw[A];exact ae _
 have D:0<R:=by rw[K];exact ae _
 have C:(2:Int)^s=(P:Int):=by rw[A];push_cast;rfl
 have M:(2:Int)^(64-s)=(R:Int):=by rw[K];push_cast;rfl
 rw[← A] at O E;have j:hi*P+P≤y*P:=by
  have:=au P S;rw[Nat.succ_mul] at this;exact this
 have F:lo/R<P:=by
  rw[aO D];omega
 have c:lo*P%2^64=(lo%R)*P:=by rw[← B,aJ P R,dj]
 have i:=cu lo R;have W:lo%R<R:=aW _ D;have N:(lo%R)*P<2^64:=by rw[← B,aJ P R];exact av W J
 have I:hi*P%2^s=0:=by rw[← A];exact eS _ _
 refine⟨y*P,hi*P,lo/R,hi*P+lo/R,y*P/2^32,y*P%2^32,(lo%R)*P,(lo%R)*P/2^32,(lo%R)*P%2^32,?_,by omega,?_,?_,?_,?_,?_,by omega,?_,by rw[A],by omega,by omega,by omega,by omega,by omega,by omega,by omega,?_⟩
 ·rw[C,IntKind.wrap_u64,← aG];omega
 ·exact FT.and_mask _ 32 E eX
 ·rw[C,IntKind.wrap_u64,← aG];omega
 ·rw[M,← dA]
 ·rw[u64_or_nat _ _ eX eX,nat_join s _ (lo/R) I (by rw[← A];exact F)]
 ·rw[C,IntKind.wrap_u64,← aG,← c];omega
 ·exact FT.and_mask _ 32 N eX
 ·rw[← A,aL,aL];have X:(lo%R)*P/2^32*2^32+(lo%R)*P%2^32=(lo%R)*P:=by omega
  rw[X,← B];have Z:lo*P=R*(lo/R)*P+(lo%R)*P:=by rw[← aL,i]
  rw[Z,show lo/R*(P*R)=R*(lo/R)*P from by ac_rfl,show hi*P*(P*R)=hi*(P*R)*P from by ac_rfl];omega
/-- What both halves come to. -/
theorem sf {B hi lo y s Y h u1 u0 g h2 g2 R:Nat} (O:0<y) (A:Y=y*2^s) (M:h*(B*B)+(u1*B+u0)=(hi*(B*B)+lo)*2^s) (J:g*Y+h2=h*B+u1) (K:g2*Y+R=h2*B+u0) (F:R<Y):
  g*B+g2=(hi*(B*B)+lo)/y∧R/2^s=(hi*(B*B)+lo)%y:=by
 have I:=ae s;generalize hi*(B*B)+lo=N at *;have L:(g*B+g2)*Y+R=N*2^s:=by
  rw[← M,aL,cM,K,← cM,← ar,show g*B*Y+h2*B=(g*Y+h2)*B from by rw[aL];congr 1;ac_rfl,J,aL,cM]
 generalize g*B+g2=Q at *;have C:R=(N-Q*y)*2^s:=by
  rw[Nat.sub_mul,← L,A,ar];omega
 have D:N-Q*y<y:=by
  rw[C,A] at F;exact bJ F
 have h6:Q*y≤N:=by
  refine eI (c:=2^s) ?_ I;rw[ar,← A];omega
 rw[C,dk _ I];have E:N=(N-Q*y)+Q*y:=by omega
 constructor
 ·rw[E,Nat.add_mul_div_right _ _ O,b9 D];omega
 ·conv=>rhs;rw[E]
  rw[eJ,bh D]
theorem q1h {hi lo y s Y h u1 u0 g h2 g2 R:Nat} (K:0<y) (J:Y=y*2^s) (C:h*2^64+(u1*2^32+u0)=(hi*2^64+lo)*2^s) (D:g*Y+h2=h*2^32+u1) (E:g2*Y+R=h2*2^32+u0) (I:R<Y):
  g*2^32+g2=(hi*2^64+lo)/y∧R/2^s=(hi*2^64+lo)%y:=by
 obtain⟨B,F⟩:∃ B,B=2^32:=⟨_,rfl⟩;have A:2^64=B*B:=by rw[F]
 rw[A] at C ⊢;rw[← F] at C D E ⊢;exact sf K J C D E I
/-- The words of a half. -/
theorem q2K (h top:Nat) (E:h<2^64) (F:2^31≤top) (D:top<2^32):∃ g p r:Nat,IntKind.u64.wrap ((h:Int)/top)=g∧IntKind.u64.wrap ((g:Int)*top)=p∧IntKind.u64.wrap ((h:Int)-p)=r∧g=h/top∧g*top+r=h∧r<2^32∧g<2^33:=by
 have A:=cu h top;have C:=aW h (show 0<top by omega);have B:h/top<2^33:=by rw[aO eX];omega
 refine⟨h/top,h/top*top,h%top,?_,?_,?_,rfl,by rw[aJ];exact A,by omega,B⟩
 ·rw[← dA,IntKind.wrap_u64];generalize h/top=q at *;omega
 ·rw[← aG,IntKind.wrap_u64];rw[aJ] at A;generalize h/top*top=q at *;omega
 ·rw[aJ] at A;rw[IntKind.wrap_u64];generalize h/top*top=q at *;omega
/-- The words that are compared. -/
theorem q2p (g next r u2:Nat) (B:g<2^32) (C:next<2^32) (D:r<2^32) (hu:u2<2^32):∃ p A q:Nat,IntKind.u64.wrap ((g:Int)*next)=p∧IntKind.u64.wrap (4294967296*(r:Int))=A∧IntKind.u64.wrap ((A:Int)+u2)=q∧p=g*next∧q=r*2^32+u2:=by
 have h1:g*next≤2^32*2^32-2^33+1:=by
  have:g*next≤(2^32-1)*(2^32-1):=bF eX eX
  omega
 refine⟨g*next,r*2^32,r*2^32+u2,?_,?_,?_,rfl,rfl⟩
 ·rw[← aG,IntKind.wrap_u64];omega
 ·rw[IntKind.wrap_u64];omega
 ·rw[IntKind.wrap_u64];omega
/-- The words of what is left of a half. -/
theorem q3s (h u2 g Y:Nat) (h1:g*Y≤h*2^32+u2) (h2:h*2^32+u2<(g+1)*Y) (B:Y<2^64):∃ A a2 a3 R:Nat,IntKind.u64.wrap ((h:Int)*4294967296)=A∧IntKind.u64.wrap ((A:Int)+u2)=a2∧IntKind.u64.wrap ((g:Int)*Y)=a3∧IntKind.u64.wrap ((a2:Int)-a3)=R∧g*Y+R=h*2^32+u2∧R<Y:=by
 rw[aL,aT] at h2;refine⟨h*2^32%2^64,(h*2^32%2^64+u2)%2^64,g*Y%2^64,h*2^32+u2-g*Y,?_,?_,?_,?_,?_,?_⟩
 ·rw[IntKind.wrap_u64];omega
 ·rw[IntKind.wrap_u64];omega
 ·rw[← aG,IntKind.wrap_u64];generalize g*Y=X at *;omega
 ·rw[IntKind.wrap_u64];generalize g*Y=X at *;omega
 ·generalize g*Y=X at *;omega
 ·generalize g*Y=X at *;omega
/-- The quotient of two words by one. -/
def mR (n y:Nat) (w:World) (e:Ending) (A:World):Prop:=e= .returned (.tuple #[.int .u64 ((n/y:Nat):Int),.int .u64 ((n%y:Nat):Int)])∧G w A
theorem q3u {a A b B:Int} (h1:a=A) (h2:b=B):Ending.returned (.tuple #[.int .u64 a,.int .u64 b])= .returned (.tuple #[.int .u64 A,.int .u64 B]):=by rw[h1,h2]
theorem q4k (w:World) (lo y:Nat) (E:lo<2^64) (F:0<y):
  Calls Tryz.prog 223 #[.int .u64 0,.int .u64 (lo:Int),.int .u64 (y:Int)] w (mR lo y w):=by
 have h1:((y:Int)==0)=false:=by simp;omega
 have h2:decide ((y:Int)≤0)=false:=by simp;omega
 have h3:((0:Int)==0)=true:=rfl;have I:y≠0:=by omega
 have hle:=aX lo y;have J:IntKind.u64.wrap ((lo:Int)/y)=((lo/y:Nat):Int):=by
  rw[← dA,IntKind.wrap_u64];generalize lo/y=q at *;omega
 have B:(lo:Int)%y=((lo%y:Nat):Int):=by rw[dL]
 have C:=hi9 B;unfold mR;clear B;generalize lo/y=q at *;generalize lo%y=r at *;go_enter Tryz.func223,Tryz.ntmps223;go_wp2_with fail;refine fq eZ eZ ?_;intro W D;clear D
 repeat (go_big_quiet_step (fail))
 refine wpQuiet_nil ?_;intro K A;go_wp2_with fail
 go_ret2
 exact⟨q3u rfl C.out,A⟩
set_option maxHeartbeats 4000000 in
set_option maxRecDepth 100000 in
theorem q4i (w:World) (hi lo y s:Nat) (dr:hi<y) (hm:0<hi) (ds:lo<2^64) (hs:s≤63) (di:2^63≤y*2^s) (bv:y*2^s<2^64)
   (HL:∀ w,Calls Tryz.prog 171 #[.int .u64 (y:Int)] w fun e w'=>e= .returned (.int .i64 s)∧w'=w):
  Calls Tryz.prog 223 #[.int .u64 (hi:Int),.int .u64 (lo:Int),.int .u64 (y:Int)] w (mR (hi*2^64+lo) y w):=by
 have h1:((y:Int)==0)=false:=by simp;omega
 have h2:decide (y≤hi)=false:=by simp;omega
 have h3:((hi:Int)==0)=false:=by simp;omega
 obtain⟨Y,H,L,h,top,next,U,u2,u0,x1,x2,x3,x4,x5,x6,x7,x8,x9,y1,y2,y3,y4,y5,y6,y7,y8,y9⟩:=q4j hi lo y s dr ds hs di bv;have d:Hid (Y<2^64):=by show Y<2^64;rw[y1];exact bv
 obtain⟨k,p0,cc,z1,z2,z3,z4,z5,z6,z7⟩:=q2K h top (by have:=d.out;omega) y4 y5;obtain⟨B,hB⟩:∃ B,B=4294967296:=⟨_,rfl⟩;have D:Hid (B=4294967296):=hB;have bn:Hid (h<top*B+next):=by show h<top*B+next;rw[hB];omega
 have bl:Hid (u2<B):=by show u2<B;omega
 have cr:Hid (next<B):=by show next<B;omega
 have fp:Hid (k<8589934592):=by show k<8589934592;omega
 have ha:Hid (cc<4294967296):=z6;have fv:Hid (k*top+cc=h):=z5;have he:Hid (h*B+u2<(k+1)*(top*B+next)):=by
  show h*B+u2<(k+1)*(top*B+next);rw[z4];exact half_start eX bl.out
 have ea:next<4294967296:=y3
 have ho:u2<4294967296:=y7;have hz:(top:Int)≤4294967295:=by omega
 have hn:top≠0:=by omega
 have ib:(s:Int)≤63:=by omega
 have hh:Hid (Y=y*2^s):=y1;have o:Hid (Y=top*4294967296+next):=y2;have hd:Hid (h*2^64+(u2*2^32+u0)=(hi*2^64+lo)*2^s):=y9;have ep:u0<4294967296:=y8;have cs:Hid (2^31≤top):=y4;have ia:Hid (h<Y):=y6;have hg:Hid (0<y):=by show 0<y;omega
 have HL:=hi9 HL;clear y1 y2 y3 y4 y5 y6 y7 y8 y9 z4 z5 z6 z7 di bv hB;go_enter Tryz.func223,Tryz.ntmps223;go_wp2_with fail;refine Calls.mono (P:=Tryz.prog) (HL.out _) ?_;rintro e w1 ⟨rfl,rfl⟩;go_wp2_with fail;clear h1 h2 h3 x1 x2 x3 x4 x5 x6 x7 x8 x9 z1 z2 z3 HL dr hm ds
 go_loop [15,16] (fun vg vr=>∃ g r:Nat,vg= .int .u64 g∧vr= .int .u64 r∧g<8589934592∧r<4294967296∧g*top+r=h∧h*B+u2<(g+1)*(top*B+next)) (fun vg _=>(intOf vg).toNat)
 case atStart=>exact⟨k,cc,rfl,rfl,fp.out,ha.out,fv.out,he.out⟩
 case round=>
  obtain⟨W,ra,rfl,rfl,hq,eb,ai,al⟩:=hrel;have Z:=hi9 ai;have ci:=hi9 al;clear ai al;have ht:(W:Int)≤8589934591:=by omega
  have hx:(ra:Int)≤4294967295:=by omega
  by_cases hk:4294967296≤W
  case' pos=>
   have bw:decide ((4294967296:Int)≤W)=true:=by simp;omega
   have i:Hid (h*B+u2<W*(top*B+next)):=ld bn.out bl.out (by rw[D.out];exact hk);obtain⟨A,E⟩:∃ g',W=g'+1:=⟨W-1,by omega⟩;have dl:IntKind.u64.wrap ((W:Int)-1)=A:=by rw[IntKind.wrap_u64];omega
   have F:Hid (A*top+(ra+top)=h):=by
    show A*top+(ra+top)=h;rw[← Z.out,E,aL,aT];omega
   have J:Hid _:=E;clear E
  case' neg=>
   have bw:decide ((4294967296:Int)≤W)=false:=by simp;omega
   obtain⟨pa,ii,qa,it,jp,kk,O,X⟩:=q2p W next ra u2 eX ea eb ho
   have M:=hi9 O;have N:=hi9 X;by_cases S:qa<pa
   case' pos=>
    have ca:decide (qa<pa)=true:=by simp;exact S
    have i:Hid (h*B+u2<W*(top*B+next)):=oB Z.out (by rw[D.out,← M.out,← N.out];exact S);obtain⟨A,E⟩:∃ g',W=g'+1:=by
     rcases W with _|g'
     ·rw[bL] at O;omega
     ·exact⟨g',rfl⟩
    have dl:IntKind.u64.wrap ((W:Int)-1)=A:=by rw[IntKind.wrap_u64];omega
    have F:Hid (A*top+(ra+top)=h):=by
     show A*top+(ra+top)=h;rw[← Z.out,E,aL,aT];omega
    have J:Hid _:=E;clear O X S E M N
   case' neg=>
    have ca:decide (qa<pa)=false:=by simp;omega
  all_goals first
  |(have af:Hid (W*(top*B+next)≤h*B+u2):=lE Z.out (by rw[D.out,← M.out,← N.out];omega)
    have am:Hid (h*B+u2<(W+1)*(top*B+next)):=ci.out;clear O X S M N;obtain⟨A,rfl⟩:∃ g',g'=W:=⟨_,rfl⟩)
  |(by_cases ap:4294967296≤ra+top
    case neg=>
      have ee:decide ((4294967296:Int)≤(ra:Int)+top)=false:=by simp;omega
      go_wp2_with fail
      go_round
      case rel=>exact⟨A,ra+top,rfl,by go_num,by have:=J.out;omega,by omega,F.out,by rw[← J.out];exact i.out⟩
      case measure=>have:=J.out;simp [intOf];omega
    have ee:decide ((4294967296:Int)≤(ra:Int)+top)=true:=by simp;omega
    obtain⟨k1,k2⟩:=qO (u2:=u2) bn.out cr.out F.out (by rw[D.out];exact ap);have af:Hid (A*(top*B+next)≤h*B+u2):=lE F.out k2;have am:Hid (h*B+u2<(A+1)*(top*B+next)):=by show h*B+u2<(A+1)*(top*B+next);rw[← J.out];exact i.out
    clear k1 k2 ap i F J)
  all_goals as_aux_lemma=>
   have eu:A*Y≤h*2^32+u2:=by have:=af.out;rw[D.out] at this;rw[o.out];exact this
   have fa:h*2^32+u2<(A+1)*Y:=by have:=am.out;rw[D.out] at this;rw[o.out];exact this
   have fh:A<4294967296:=by have:=mZ bn.out bl.out af.out;rw[D.out] at this;exact this
   obtain⟨a1,a2,a3,h2,v1,v2,v3,v4,v5,v6⟩:=q3s h u2 A Y eu fa d.out;have cz:h2<2^64:=by have:=d.out;omega
   obtain⟨m,ih,cd,s1,s2,s3,s4,s5,s6,s7⟩:=q2K h2 top cz cs.out eX;have ce:Hid (A<4294967296):=fh;have fs:Hid (A*Y+h2=h*2^32+u2):=v5;have bq:Hid (h2<top*B+next):=by show h2<top*B+next;rw[D.out];have:=o.out;omega
   have bm:Hid (u0<B):=by show u0<B;rw[D.out];exact ep
   have fr:Hid (m<8589934592):=by show m<8589934592;omega
   have hc:Hid (cd<4294967296):=s6;have gd:Hid (m*top+cd=h2):=s5;have hf:Hid (h2*B+u0<(m+1)*(top*B+next)):=by
    show h2*B+u0<(m+1)*(top*B+next);rw[s4];exact half_start eX bm.out
   clear eu fa fh v5 v6 cz s4 s5 s6 s7;go_wp2_with fail;clear s1 s2 s3 v1 v2 v3 v4
   go_loop [18,16] (fun vg vr=>∃ g r:Nat,vg= .int .u64 g∧vr= .int .u64 r∧g<8589934592∧r<4294967296∧g*top+r=h2∧h2*B+u0<(g+1)*(top*B+next)) (fun vg _=>(intOf vg).toNat)
   case atStart=>exact⟨m,cd,rfl,rfl,fr.out,hc.out,gd.out,hf.out⟩
   case round=>
    obtain⟨gb,rb,rfl,rfl,hr,ec,ai,al⟩:=hrel;have c:=hi9 ai;have cl:=hi9 al;clear ai al;have hw:(gb:Int)≤8589934591:=by omega
    have hy:(rb:Int)≤4294967295:=by omega
    by_cases hl:4294967296≤gb
    case' pos=>
     have bz:decide ((4294967296:Int)≤gb)=true:=by simp;omega
     have j:Hid (h2*B+u0<gb*(top*B+next)):=ld bq.out bm.out (by rw[D.out];exact hl);obtain⟨C,E⟩:∃ g',gb=g'+1:=⟨gb-1,by omega⟩;have dq:IntKind.u64.wrap ((gb:Int)-1)=C:=by rw[IntKind.wrap_u64];omega
     have I:Hid (C*top+(rb+top)=h2):=by
      show C*top+(rb+top)=h2;rw[← c.out,E,aL,aT];omega
     have K:Hid _:=E;clear E
    case' neg=>
     have bz:decide ((4294967296:Int)≤gb)=false:=by simp;omega
     obtain⟨pb,io,qb,jj,kb,kp,O,X⟩:=q2p gb next rb u0 eX ea ec ep
     have M:=hi9 O;have N:=hi9 X;by_cases S:qb<pb
     case' pos=>
      have cb:decide (qb<pb)=true:=by simp;exact S
      have j:Hid (h2*B+u0<gb*(top*B+next)):=oB c.out (by rw[D.out,← M.out,← N.out];exact S);obtain⟨C,E⟩:∃ g',gb=g'+1:=by
       rcases gb with _|g'
       ·rw[bL] at O;omega
       ·exact⟨g',rfl⟩
      have dq:IntKind.u64.wrap ((gb:Int)-1)=C:=by rw[IntKind.wrap_u64];omega
      have I:Hid (C*top+(rb+top)=h2):=by
       show C*top+(rb+top)=h2;rw[← c.out,E,aL,aT];omega
      have K:Hid _:=E;clear O X S E M N
     case' neg=>
      have cb:decide (qb<pb)=false:=by simp;omega
    all_goals first
    |(have ag:Hid (gb*(top*B+next)≤h2*B+u0):=lE c.out (by rw[D.out,← M.out,← N.out];omega)
      have an:Hid (h2*B+u0<(gb+1)*(top*B+next)):=cl.out;clear O X S M N;obtain⟨C,rfl⟩:∃ g',g'=gb:=⟨_,rfl⟩)
    |(by_cases bi:4294967296≤rb+top
      case neg=>
        have em:decide ((4294967296:Int)≤(rb:Int)+top)=false:=by simp;omega
        go_wp2_with fail
        go_round
        case rel=>exact⟨C,rb+top,rfl,by go_num,by have:=K.out;omega,by omega,I.out,by rw[← K.out];exact j.out⟩
        case measure=>have:=K.out;simp [intOf];omega
      have em:decide ((4294967296:Int)≤(rb:Int)+top)=true:=by simp;omega
      obtain⟨k1,k2⟩:=qO (u2:=u0) bq.out cr.out I.out (by rw[D.out];exact bi);have ag:Hid (C*(top*B+next)≤h2*B+u0):=lE I.out k2;have an:Hid (h2*B+u0<(C+1)*(top*B+next)):=by show h2*B+u0<(C+1)*(top*B+next);rw[← K.out];exact j.out
      clear k1 k2 bi j I K)
    all_goals as_aux_lemma=>
     have ez:C*Y≤h2*2^32+u0:=by have:=ag.out;rw[D.out] at this;rw[o.out];exact this
     have fb:h2*2^32+u0<(C+1)*Y:=by have:=an.out;rw[D.out] at this;rw[o.out];exact this
     have hp:C<4294967296:=by have:=mZ bq.out bm.out ag.out;rw[D.out] at this;exact this
     obtain⟨b1,b2,b3,R,t1,t2,t3,t4,t5,t6⟩:=q3s h2 u0 C Y ez fb d.out;obtain⟨e1,e2⟩:=q1h hg.out hh.out hd.out fs.out t5 t6;obtain⟨G1,hj⟩:∃ G1:Nat,G1=A*4294967296:=⟨_,rfl⟩;have f1:IntKind.u64.wrap ((A:Int)*4294967296)=G1:=by have:=ce.out;rw[IntKind.wrap_u64];omega
     have f2:IntKind.u64.wrap ((G1:Int)+C)=((A*2^32+C:Nat):Int):=by have:=ce.out;rw[IntKind.wrap_u64];omega
     have f3:(R:Int)/2^s=((R/2^s:Nat):Int):=by rw[FT.ipow,dA]
     rw[e1] at f2;rw[e2] at f3;clear e1 e2 t5 t6 hj ez fb hp;unfold mR;obtain⟨QQ,bs⟩:∃ QQ,QQ=(hi*2^64+lo)/y:=⟨_,rfl⟩;obtain⟨RR,bu⟩:∃ RR,RR=(hi*2^64+lo)%y:=⟨_,rfl⟩;rw[← bs] at f2;rw[← bu] at f3;have gg:=hi9 bs;have gm:=hi9 bu;clear bs bu;go_wp2_with fail
     go_ret2
     exact⟨q3u (congrArg (fun n:Nat=>(n:Int)) gg.out) (congrArg (fun n:Nat=>(n:Int)) gm.out),ad _⟩
theorem nm {y:Nat} (C:0<y) (A:y<2^64):∃ s:Nat,s≤63∧(s:Int)=64-(Lib.bitLen y:Int)∧2^63≤y*2^s∧y*2^s<2^64:=by
 have hb:=ic (x:=y) eX A;have D:y.log2<64:=(cT eX).2 A;have h1:=dm (n:=y) eX;have h2:=cK (n:=y);obtain⟨s,E⟩:∃ s,s=63-y.log2:=⟨_,rfl⟩;have B:=ae s;refine⟨s,by omega,by omega,?_,?_⟩
 ·have:=au (2^s) h1;rw[← ah,show y.log2+s=63 from by omega] at this;exact this
 ·have:=av h2 B;rw[← ah,show y.log2+1+s=64 from by omega] at this;exact this
theorem q0x (w:World) (hi lo y:Nat) (B:hi<y) (A:lo<2^64) (D:y<2^64):
  Calls Tryz.prog 223 #[.int .u64 (hi:Int),.int .u64 (lo:Int),.int .u64 (y:Int)] w (mR (hi*2^64+lo) y w):=by
 rcases cm hi with rfl|C
 ·have:=q4k w lo y A eX;rw[show 0*2^64+lo=lo from by omega];exact this
 ·obtain⟨s,E,F,I,J⟩:=nm (by omega:0<y) D;refine q4i w hi lo y s B C A E I J fun w=> ?_;have:=Tryz.bits_LeadingZeros64 (y:Int) w eX eX;rw[dw,← F] at this;exact this
/-- A quotient and a rest. -/
def q6K (w:World) (q r:Nat) (e:Ending) (A:World):Prop:=∃ v,e= .returned (.tuple #[v,.int .u64 (r:Int)])∧G w A∧Num A v q
theorem q4o {l cs:List Nat} {k x r y:Nat} (B:k<l.length) (E:cs.length=l.length) (D:l.getD k 0=x) (h:val (l.drop (k+1))=val (cs.drop (k+1))*y+r):
  val (l.drop k)=val ((cs.set k ((r*2^64+x)/y)).drop k)*y+(r*2^64+x)%y:=by
 rw[fD B,D,fD (l:=cs.set k ((r*2^64+x)/y)) (by rw[aF];omega),fB eX,cA eX];show x+2^64*val (l.drop (k+1))=((r*2^64+x)/y+2^64*val (cs.drop (k+1)))*y+(r*2^64+x)%y;have C:=cu (r*2^64+x) y;rw[h,aL,ar];rw[aJ y] at C;generalize (r*2^64+x)/y*y=A at *;generalize (r*2^64+x)%y=M at *;generalize val (cs.drop (k+1))*y=V at *;omega
set_option maxHeartbeats 4000000 in
set_option maxRecDepth 100000 in
theorem jW (w:World) (va:Value) (a y K:Nat) (hK:K≤1000000) (ha:Num w va a) (J:a<2^(64*K)) (A:0<y) (hy:y<2^64):
  Calls Tryz.prog 149 #[va,.int .u64 (y:Int)] w (q6K w (a/y) (a%y)):=by
 obtain⟨l,d,c,rfl⟩:=ha;have ai:=fg c J;clear J;have N:=d.1;obtain⟨pa,ca,rfl,ag,R⟩:=fF d;have HA:=hi9 R;clear R d;generalize M:l.length=n at *;have U:Hid (l.length=n):=M;clear M;have al:=gV n eX;have an:(y:Int)≤18446744073709551615:=by omega
 go_enter Tryz.func149,Tryz.ntmps149;go_wp2_with fail
 go_loopw [5,6] (fun vr vk wr=>∃ (t r:Nat) (cs:List Nat),t≤n∧vk= .int .i64 ((t:Int)-1)∧vr= .int .u64 r∧r<y∧cs.length=n∧Own wr w.heap.size cs∧val (l.drop t)=val (cs.drop t)*y+r∧G w wr) (fun _ vk _=>(intOf vk+1).toNat)
 case atStart=>exact⟨n,0,List.replicate n 0,aI _,rfl,rfl,A,by simp,gh w n 90,by rw[aR (by rw[U.out];exact aI _),aR fX];simp [val],(ad _).alloc _⟩
 case round=>
  obtain⟨t,r,cs,ht,rfl,rfl,m,L,D,E,S⟩:=hrel;have HV:=hi9 E;have B:=hi9 L;have W:=hi9 D;clear E L D;cases t with
  |succ k=>
   obtain⟨b1,o1,rfl,I,C⟩:=HA.out k eX;have Z:=S.cell (p:=⟨b1,o1+k,none⟩) I C;have af:Hid (b1<wr.heap.size):=aj I S.size;clear C I;have hx:=ff N k;have hq:(r*2^64+l.getD k 0)/y<2^64:=by
    rw[aO A];generalize l.getD k 0=x at *;omega
   have O:(r*2^64+l.getD k 0)%y<y:=aW _ A;have HS:Hid _:=q4o (cs:=cs) (l:=l) (y:=y) (r:=r) (k:=k) (by rw[U.out];omega) (by rw[B.out,U.out]) rfl HV.out;have HD:=hi9 (q0x wr r (l.getD k 0) y m hx hy);have HQ:=hi9 hq;have HR:=hi9 O;have am:((l.getD k 0:Nat):Int)≤18446744073709551615:=by omega
   have o:(r:Int)≤18446744073709551615:=by omega
   generalize l.getD k 0=x at *;clear hq O hx;go_wp2_with fail;refine Calls.mono (P:=Tryz.prog) HD.out ?_;rintro e w2 ⟨rfl,g2⟩;have F:Hid (Own w2 w.heap.size cs):=Own.grow W.out g2;have X:=ab S g2;have ho:=Own.cell (w:=w2) (b:=w.heap.size) (l:=cs) (i:=k) F.out (by rw[B.out];omega);have hf:=Own.frozen (w:=w2) (b:=w.heap.size) (l:=cs) (i:=k) F.out (by rw[B.out];omega);generalize (r*2^64+x)/y=q at *;generalize (r*2^64+x)%y=r' at *;generalize cs.getD k 0=z at *;clear HD g2 W Z;go_wp2_with fail
   go_roundw
   case rel=>exact⟨k,r',cs.set k q,by omega,by congr 1,rfl,HR.out,by rw[aF];exact B.out,Own.set F.out k q (by rw[B.out];omega) HQ.out,HS.out,X.setCell (aI _) _⟩
   case measure=>simp [intOf]
  |zero=>
   have hT:Hid _:=trim_c wr (.slice (some ⟨w.heap.size,0,none⟩) n n) cs (by have:=Own.sl W.out n (by rw[B.out];exact aI _);rw[B.out] at this;exact this) (by rw[B.out];omega);have s:val l=val cs*y+r:=HV.out;have q2:val cs=val l/y:=by
    rw[s,aJ,Nat.mul_add_div A,b9 m,aP]
   have q3:r=val l%y:=by
    rw[s,aJ,Nat.mul_add_mod,bh m]
   rw[q2] at hT;have Q3:=hi9 q3;clear s q2 q3;have o:(r:Int)≤18446744073709551615:=by omega
   go_wp2_with fail;refine Calls.mono (P:=Tryz.prog) hT.out ?_;rintro e w1 ⟨v1,rfl,Y,j⟩;go_wp2_with fail
   go_ret2
   exact⟨v1,by rw[← Q3.out];rfl,ab S Y,j⟩
def q27 (w:World) (b o:Nat) (us:List Nat) (V:Nat) (e:Ending) (A:World):Prop:=
 ∃ cs:List Nat,e= .returned (.int .u64 ((val us/V:Nat):Int))∧cs.length=us.length∧At A b o cs∧GB b o us.length w A∧val cs=val us%V
theorem q4h (w:World) (hi lo y:Nat) (A:hi<y) (B:lo<2^64) (C:y<2^64):
  Calls Tryz.prog 223 #[.int .u64 (hi:Int),.int .u64 (lo:Int),.int .u64 (y:Int)] w fun e D=>e= .returned (.tuple #[.int .u64 (((hi*2^64+lo)/y:Nat):Int),.int .u64 (((hi*2^64+lo)%y:Nat):Int)])∧G w D:=
 q0x w hi lo y A B C
theorem Sl.gb {w E:World} {b o n A D cv:Nat} {vl:List Nat} {m:Nat} (h:Sl w (.slice (some ⟨A,D,none⟩) m cv) vl) (g:GB b o n w E) (C:A≠b) (hb:A<w.heap.size):Sl E (.slice (some ⟨A,D,none⟩) m cv) vl:=by
 refine⟨h.1,?_⟩;rcases h.2 with ⟨h1,h2⟩|⟨K,L,c1,e,h1,h2,h3⟩
 ·exact Or.inl ⟨h1,h2⟩
 ·injection e with B F I;injection B with B;injection B with B J;subst B;subst J;subst F;subst I;exact Or.inr ⟨A,D,cv,rfl,h1,aj hb g.size,fun i hi=>(g.other hb C).trans (h3 i hi)⟩
theorem GB.trans {b o n:Nat} {w C A:World} (h:GB b o n w C) (k:GB b o n C A):GB b o n w A:=
 ⟨⟨k.gx.os.trans h.gx.os,k.gx.tape.trans h.gx.tape,k.gx.output.trans h.gx.output,bt h.gx.size k.gx.size,fun i hi B=>(k.gx.block i (aj hi h.gx.size) B).trans (h.gx.block i hi B)⟩,
  fun i hi=>(k.cell i hi).trans (h.cell i hi),fun i=>(k.frozen i).trans (h.frozen i)⟩
theorem At.gr {w A:World} {b o:Nat} {l:List Nat} (h:At w b o l) (g:G w A):At A b o l:=
 ⟨h.ok,aj h.hb g.size,h.row.G h.hb g,fun i hi=>g.frozen h.hb (h.free i hi)⟩
/-- The first words of a long number. -/
theorem q5h {l:List Nat} {n:Nat} (h:l.length=n+2) (A:okw l):val l<(l.getD (n+1) 0*2^64+l.getD n 0+1)*2^(64*n):=by
 have h1:=fT (l:=l) (k:=n) eX;have h2:=fD (l:=l) (k:=n+1) eX;rw[aR (show l.length≤n+1+1 by omega)] at h2;have h3:=fY A n eX;rw[h2,iE] at h1;rw[h1,aL,aT,aJ (l.getD (n+1) 0),cR (2^64*_),aJ (2^(64*n))];omega
theorem q5G {l:List Nat} {n:Nat} (h:l.length=n+1):l.getD n 0*2^(64*n)≤val l:=by
 have h1:=fT (l:=l) (k:=n) eX;rw[aR (show l.length≤n+1 by omega)] at h1;rw[h1,aJ];show _≤_+2^(64*n)*(l.getD n 0+2^64*0);rw[bG,aP];exact Nat.le_add_left _ _
theorem sA {U V N t P:Nat} (h1:U<(N+1)*P) (h2:t*P≤V) (C:0<t):U<(N/t+1)*V:=by
 have h3:=Nat.lt_div_mul_add C (a:=N);have A:N+1≤(N/t+1)*t:=by rw[aL,aT];omega
 generalize N/t+1=g at *;have B:(N+1)*P≤g*t*P:=au _ A;have h6:g*(t*P)≤g*V:=aB _ h2;rw[ar] at B;omega
theorem q1o {us vl:List Nat} {n:Nat} (hu:us.length=n+2) (hv:vl.length=n+1) (A:okw us) (B:0<vl.getD n 0):val us<((us.getD (n+1) 0*2^64+us.getD n 0)/vl.getD n 0+1)*val vl:=
 sA (q5h hu A) (q5G hv) B
/-- What the guesses keep to: the row cs of the number U, so many times V taken away; sp: too often. -/
def Guess (U V T g C:Nat) (A:Bool):Prop:=U<(g+1)*V∧(A=false→C+g*V=U)∧(A=true→C+g*V=U+T∧U<g*V)
theorem Guess.start {U V T g C q:Nat} (h:U<(g+1)*V) (F:C<T) (D:g*V<T) (B:U+T*q=C+g*V):Guess U V T g C (decide (0<q)):=by
 refine⟨h,fun A=> ?_,fun A=> ?_⟩
 ·have:q=0:=by have:=of_decide_eq_false A;omega
  rw[this,bG] at B;omega
 ·have E:=of_decide_eq_true A;have h1:q=1:=by
   by_cases h2:2≤q
   ·have:=aB T h2;omega
   ·omega
  rw[h1,bV] at B;omega
theorem Guess.next {U V T g C A q:Nat} (h:Guess U V T (g+1) C true) (L:q≤1) (K:A<T) (F:A+T*q=C+V):Guess U V T g A (!(q==1)):=by
 obtain⟨h1,-,h3⟩:=h;obtain⟨I,J⟩:=h3 rfl;rw[aL,aT] at I;refine⟨J,fun E=> ?_,fun E=> ?_⟩
 ·have D:q=1:=by simpa using E
  rw[D,bV] at F;omega
 ·have B:q=0:=by
   have:¬ q=1:=by simpa using E
   omega
  rw[B,bG] at F;omega
theorem Guess.fin {U V T g C:Nat} (B:0<V) (h:Guess U V T g C false):U/V=g∧C=U%V:=by
 obtain⟨h1,h2,-⟩:=h;have h3:=h2 rfl;rw[aL,aT] at h1;have A:C<V:=by omega
 rw[← h3,Nat.add_mul_div_right _ _ B,b9 A,eJ,bh A];exact⟨by omega,rfl⟩
set_option maxHeartbeats 4000000 in
set_option maxRecDepth 100000 in
theorem q4g (w:World) (b o c Y ov cv:Nat) (us vl:List Nat) (n:Nat) (hn:n≤1000000) (ai:us.length=n+2) (d:vl.length=n+1) (hu:At w b o us) (hc:us.length≤c) (hv:Sl w (.slice (some ⟨Y,ov,none⟩) (n+1) cv) vl) (bu:Y≠b) (Z:Y<w.heap.size)
  (ht:0<vl.getD n 0) (hU:val us<2^64*val vl):
  Calls Tryz.prog 172 #[.slice (some ⟨b,o,none⟩) (n+2) c,.slice (some ⟨Y,ov,none⟩) (n+1) cv] w (q27 w b o us (val vl)):=by
 have HU:Hid (At w b o us):=hu;have HV:Hid (Sl w (.slice (some ⟨Y,ov,none⟩) (n+1) cv) vl):=hv;have hx:=ff hu.ok (n+1);have dl:=ff hu.ok n;have hy:=ff hv.1 n;have ds:=q1o ai d hu.ok ht;have c1:=hu.row (n+1) eX;have c2:=hu.row n eX;have c3:w.cell? ⟨Y,ov+n,none⟩=some (.int .u64 (vl.getD n 0:Nat)):=by
  rcases hv.2 with ⟨h1,-⟩|⟨b1,o1,cc,e,-,-,h3⟩
  ·rw[h1] at d;simp at d
  ·injection e with e1 e2 e3;injection e1 with e1;injection e1 with e1 e4;subst e1;subst e4;exact h3 n eX
 have ci:=hi9 ds;have cl:=hi9 hU;have dq:Hid (0<val vl):=by
  show 0<val vl;have:=q5G d;have h2:0<vl.getD n 0*2^(64*n):=aM ht (ae _);omega
 have bl:b<w.heap.size:=hu.hb;have ga:(n:Int)≤1000000:=by omega
 generalize us.getD (n+1) 0=x at *;generalize us.getD n 0=x2 at *;generalize vl.getD n 0=y at *;have ea:(x:Int)≤18446744073709551615:=by omega
 clear hu hv ds hU;by_cases bs:x<y
 ·have di:decide (x<y)=true:=by simp;exact bs
  have D:(x*2^64+x2)/y<2^64:=by rw[aO ht];omega
  have k:Hid (val us<((x*2^64+x2)/y+1)*val vl):=ci.out;have eb:Hid (∀ w,Calls Tryz.prog 223 #[.int .u64 (x:Int),.int .u64 (x2:Int),.int .u64 (y:Int)] w fun e w'=>e= .returned (.tuple #[.int .u64 (((x*2^64+x2)/y:Nat):Int),.int .u64 (((x*2^64+x2)%y:Nat):Int)])∧G w w'):=fun w=>q4h w x x2 y bs dl hy;generalize (x*2^64+x2)/y=g at *;generalize (x*2^64+x2)%y=rr at *;go_enter Tryz.func172,Tryz.ntmps172;go_wp2_with fail;refine fq eZ eZ ?_;intro W hW;have bm:=iP (w:=W) ⟨b,o+(n+1),none⟩ (.int .u64 (x:Int));have ez:=iP (w:=W) ⟨Y,ov+n,none⟩ (.int .u64 (y:Int));clear hW
  repeat (go_big_quiet_step (fail))
  refine wpQuiet_nil ?_;clear bm ez;intro w2 al;have ec:=al.cell bl c1;have ee:=al.cell bl c2;have em:=al.cell Z c3;have fs:=aj bl al.size;have fv:=aj Z al.size;clear c1 c2 c3;go_wp2_with fail;refine fq eZ eZ ?_;intro W hW;have fa:=iP (w:=W) ⟨b,o+(n+1),none⟩ (.int .u64 (x:Int));have fb:=iP (w:=W) ⟨b,o+n,none⟩ (.int .u64 (x2:Int));have fh:=iP (w:=W) ⟨Y,ov+n,none⟩ (.int .u64 (y:Int));clear hW
  repeat (go_big_quiet_step ((go_at_call 223;exact iC (eb.out _))))
  refine wpQuiet_nil ?_;clear fa fb fh;intro w3 j;have i:=ab al j;have cr:Hid (G w w3):=i;have cz:Y<w3.heap.size:=aj Z i.size;have an:Hid (At w3 b o us):=HU.out.gr i;have ag:Hid (Sl w3 (.slice (some ⟨Y,ov,none⟩) (n+1) cv) vl):=HV.out.G i;clear i al j ec ee em fs fv bs di hx dl hy ea ci
  -- g: the guess (a word); k : val us < (g + 1) * val vl
  have s:Hid _:=nM w3 b o c (.slice (some ⟨Y,ov,none⟩) (n+1) cv) us vl g D an.out hc ag.out (fun b2 o2 n2 c2 e _=>by injection e with e;injection e with e;injection e with e1 e2;omega) eX eX;rw[ai] at s;have af:Hid (us.length=n+2):=ai;have bi:Hid (vl.length=n+1):=d;have L:Hid (g<2^64):=D;have am:Hid (Y≠b):=bu;have ce:Hid (n+2≤c):=by show n+2≤c;omega
  have cb:Hid (Y<w.heap.size):=Z;clear ai d hc D bu Z cz bl cl;go_wp2_with fail;refine eW s.out ?_;rintro e w4 ⟨cs,q,rfl,A,B,C,X⟩;rw[af.out] at A C X;have S:val cs<2^(64*(n+2)):=by have:=fO B.ok;rwa[A] at this
  have bn:g*val vl<2^(64*(n+2)):=by
   have h1:=fO ag.out.1;rw[bi.out] at h1;have h2:g*val vl<2^64*2^(64*(n+1)):=bC L.out h1;rw[← ah,show 64+64*(n+1)=64*(n+2) from by omega] at h2;exact h2
  have M:Hid (Guess (val us) (val vl) (2^(64*(n+2))) g (val cs) (decide (0<q))):=Guess.start k.out S bn X;have K:Hid (At w4 b o cs):=B;have I:Hid (GB b o (n+2) w w4):=GB.trans (GB.of cr.out HU.out.hb) C;have J:Hid (cs.length=n+2):=A;generalize decide (0<q)=sp at *;clear S bn B C X A s an ag k;go_wp2_with fail
  go_loopw [6,7] (fun vg vs wr=>∃ (g:Nat) (sp:Bool) (cs:List Nat),vg= .int .u64 g∧vs= .bool sp∧g<2^64∧cs.length=n+2∧At wr b o cs∧GB b o (n+2) w wr∧Guess (val us) (val vl) (2^(64*(n+2))) g (val cs) sp) (fun vg _ _=>(intOf vg).toNat)
  case atStart=>exact⟨g,sp,cs,rfl,rfl,L.out,J.out,K.out,I.out,M.out⟩
  case round=>
   clear K I J M L;obtain⟨g,sp,cs,rfl,rfl,D,A,B,C,U⟩:=hrel;have K:Hid (At wr b o cs):=B;have I:Hid (GB b o (n+2) w wr):=C;have J:Hid (cs.length=n+2):=A;have ap:=hi9 (Sl.gb HV.out C am.out cb.out);have ep:(g:Int)≤18446744073709551615:=by omega
   cases sp
   ·obtain⟨f1,f2⟩:=Guess.fin dq.out U;have F1:=hi9 f1;have F2:=hi9 f2;clear U B C A f1 f2;go_wp2_with fail;go_ret;exact⟨cs,fU (by rw[F1.out]),by rw[J.out,af.out],K.out,by rw[af.out];exact I.out,F2.out⟩
   ·obtain⟨g',rfl⟩:∃ g',g=g'+1:=by
     rcases g with _|g'
     ·have:=(U.2.2 rfl).2;rw[bL] at this;omega
     ·exact⟨g',rfl⟩
    have M:Hid (Guess (val us) (val vl) (2^(64*(n+2))) (g'+1) (val cs) true):=U;have m:Hid _:=su wr b o c (.slice (some ⟨Y,ov,none⟩) (n+1) cv) cs vl B (by have:=ce.out;omega) ap.out (fun b2 o2 n2 c2 e _=>by injection e with e;injection e with e;injection e with e1 e2;have:=am.out;omega) (by have:=bi.out;omega) eX;rw[A] at m;clear U B C A;have eu:IntKind.u64.wrap (((g'+1:Nat):Int)-1)=g':=by rw[IntKind.wrap_u64];omega
    have dr:(g':Int)+1≤18446744073709551615:=by omega
    go_wp2_with fail;refine eW m.out ?_;rintro e w5 ⟨N,q,rfl,bm,F,O,R,E⟩;rw[J.out] at F R E;have S:val N<2^(64*(n+2)):=by have:=fO O.ok;rwa[F] at this
    have HN:Hid (Guess (val us) (val vl) (2^(64*(n+2))) g' (val N) (!(q==1))):=Guess.next M.out bm S E;have bz:Hid (At w5 b o N):=O;have ca:Hid (GB b o (n+2) w w5):=GB.trans I.out R;have cd:Hid (N.length=n+2):=F;generalize (q==1)=qb at *;clear S O R E F M K I J m ap;go_wp2_with fail
    go_roundw
    case rel=>exact⟨g', !qb,N,by go_num,rfl,by omega,cd.out,bz.out,ca.out,HN.out⟩
    case measure=>simp [intOf]
 ·have di:decide (x<y)=false:=by simp;omega
  have D:(18446744073709551615:Nat)<2^64:=by omega
  obtain⟨g,bq⟩:∃ g:Nat,g=18446744073709551615:=⟨_,rfl⟩;go_enter Tryz.func172,Tryz.ntmps172;go_wp2_with fail;refine fq eZ eZ ?_;intro W hW;have fp:=iP (w:=W) ⟨b,o+(n+1),none⟩ (.int .u64 (x:Int));have fr:=iP (w:=W) ⟨Y,ov+n,none⟩ (.int .u64 (y:Int));clear hW
  repeat (go_big_quiet_step (fail))
  refine wpQuiet_nil ?_;clear fp fr;intro w3 j;have cr:Hid (G w w3):=j;have cz:Y<w3.heap.size:=aj Z j.size;have an:Hid (At w3 b o us):=HU.out.gr j;have ag:Hid (Sl w3 (.slice (some ⟨Y,ov,none⟩) (n+1) cv) vl):=HV.out.G j;have k:Hid (val us<(g+1)*val vl):=by show val us<(g+1)*val vl;rw[bq];exact cl.out
  have bw:(18446744073709551615:Int)=(g:Int):=by rw[bq];rfl
  rw[← bq] at D;clear j c1 c2 c3 bs di hx dl hy ea ci;rw[bw];clear bw bq
  -- g: the guess (a word); k : val us < (g + 1) * val vl
  have s:Hid _:=nM w3 b o c (.slice (some ⟨Y,ov,none⟩) (n+1) cv) us vl g D an.out hc ag.out (fun b2 o2 n2 c2 e _=>by injection e with e;injection e with e;injection e with e1 e2;omega) eX eX;rw[ai] at s;have af:Hid (us.length=n+2):=ai;have bi:Hid (vl.length=n+1):=d;have L:Hid (g<2^64):=D;have am:Hid (Y≠b):=bu;have ce:Hid (n+2≤c):=by show n+2≤c;omega
  have cb:Hid (Y<w.heap.size):=Z;clear ai d hc D bu Z cz bl cl;go_wp2_with fail;refine eW s.out ?_;rintro e w4 ⟨cs,q,rfl,A,B,C,X⟩;rw[af.out] at A C X;have S:val cs<2^(64*(n+2)):=by have:=fO B.ok;rwa[A] at this
  have bn:g*val vl<2^(64*(n+2)):=by
   have h1:=fO ag.out.1;rw[bi.out] at h1;have h2:g*val vl<2^64*2^(64*(n+1)):=bC L.out h1;rw[← ah,show 64+64*(n+1)=64*(n+2) from by omega] at h2;exact h2
  have M:Hid (Guess (val us) (val vl) (2^(64*(n+2))) g (val cs) (decide (0<q))):=Guess.start k.out S bn X;have K:Hid (At w4 b o cs):=B;have I:Hid (GB b o (n+2) w w4):=GB.trans (GB.of cr.out HU.out.hb) C;have J:Hid (cs.length=n+2):=A;generalize decide (0<q)=sp at *;clear S bn B C X A s an ag k;go_wp2_with fail
  go_loopw [6,7] (fun vg vs wr=>∃ (g:Nat) (sp:Bool) (cs:List Nat),vg= .int .u64 g∧vs= .bool sp∧g<2^64∧cs.length=n+2∧At wr b o cs∧GB b o (n+2) w wr∧Guess (val us) (val vl) (2^(64*(n+2))) g (val cs) sp) (fun vg _ _=>(intOf vg).toNat)
  case atStart=>exact⟨g,sp,cs,rfl,rfl,L.out,J.out,K.out,I.out,M.out⟩
  case round=>
   clear K I J M L;obtain⟨g,sp,cs,rfl,rfl,D,A,B,C,U⟩:=hrel;have K:Hid (At wr b o cs):=B;have I:Hid (GB b o (n+2) w wr):=C;have J:Hid (cs.length=n+2):=A;have ap:=hi9 (Sl.gb HV.out C am.out cb.out);have ep:(g:Int)≤18446744073709551615:=by omega
   cases sp
   ·obtain⟨f1,f2⟩:=Guess.fin dq.out U;have F1:=hi9 f1;have F2:=hi9 f2;clear U B C A f1 f2;go_wp2_with fail;go_ret;exact⟨cs,fU (by rw[F1.out]),by rw[J.out,af.out],K.out,by rw[af.out];exact I.out,F2.out⟩
   ·obtain⟨g',rfl⟩:∃ g',g=g'+1:=by
     rcases g with _|g'
     ·have:=(U.2.2 rfl).2;rw[bL] at this;omega
     ·exact⟨g',rfl⟩
    have M:Hid (Guess (val us) (val vl) (2^(64*(n+2))) (g'+1) (val cs) true):=U;have m:Hid _:=su wr b o c (.slice (some ⟨Y,ov,none⟩) (n+1) cv) cs vl B (by have:=ce.out;omega) ap.out (fun b2 o2 n2 c2 e _=>by injection e with e;injection e with e;injection e with e1 e2;have:=am.out;omega) (by have:=bi.out;omega) eX;rw[A] at m;clear U B C A;have eu:IntKind.u64.wrap (((g'+1:Nat):Int)-1)=g':=by rw[IntKind.wrap_u64];omega
    have dr:(g':Int)+1≤18446744073709551615:=by omega
    go_wp2_with fail;refine eW m.out ?_;rintro e w5 ⟨N,q,rfl,bm,F,O,R,E⟩;rw[J.out] at F R E;have S:val N<2^(64*(n+2)):=by have:=fO O.ok;rwa[F] at this
    have HN:Hid (Guess (val us) (val vl) (2^(64*(n+2))) g' (val N) (!(q==1))):=Guess.next M.out bm S E;have bz:Hid (At w5 b o N):=O;have ca:Hid (GB b o (n+2) w w5):=GB.trans I.out R;have cd:Hid (N.length=n+2):=F;generalize (q==1)=qb at *;clear S O R E F M K I J m ap;go_wp2_with fail
    go_roundw
    case rel=>exact⟨g', !qb,N,by go_num,rfl,by omega,cd.out,bz.out,ca.out,HN.out⟩
    case measure=>simp [intOf]
/-- What holds ahead of digit t - 1. -/
def DI (us B:List Nat) (t N M V A:Nat):Prop:=us.length=N∧B.length=M∧val us<2^(64*t)*V∧val us+val (B.drop t)*(2^(64*t)*V)=A
theorem DI.start {us:List Nat} {N M V A:Nat} (C:us.length=N) (hv:val us=A) (B:A<2^(64*M)*V):DI us (List.replicate M 0) M N M V A:=by
 refine⟨C,by simp,by rw[hv];exact B,?_⟩;rw[aR fX];simp [val,hv]
theorem q4f {low S V P q r Z A X:Nat} (F:X=low+P*S) (I:q*V+r=S) (E:X+Z*(2^64*P*V)=A):low+P*r+(q+2^64*Z)*(P*V)=A:=by
 rw[← E,F,← I,aE,aL];have C:P*(q*V)=q*(P*V):=by ac_rfl
 have D:2^64*Z*(P*V)=Z*(2^64*P*V):=by
  generalize (2:Nat)^64=B
  ac_rfl
 rw[C,D];omega
theorem DI.step {us F cs:List Nat} {j n N M V A:Nat} (h:DI us F (j+1) N M V A) (E:okw us) (o:j<M) (d:j+(n+1)≤N) (Z:V<2^(64*n)) (I:0<V):
  val ((us.drop j).take (n+1))<2^64*V∧
  (cs.length=n+1→val cs=val ((us.drop j).take (n+1))%V→DI (us.take j++(cs++us.drop (j+(n+1)))) (F.set j (val ((us.drop j).take (n+1))/V)) j N M V A):=by
 obtain⟨h1,h2,h3,U⟩:=h;have O:=mg us j (n+1) eX;have L:=fY E j eX;have k:=ae (64*j);have D:2^(64*(j+1))=2^64*2^(64*j):=by rw[← ah];congr 1;omega
 have R:val (us.drop (j+(n+1)))=0:=by
  rw[iD E];refine b9 ?_;have W:2^(64*(j+1))*V≤2^(64*(j+1))*2^(64*n):=aB _ (dc Z);rw[← ah,show 64*(j+1)+64*n=64*(j+(n+1)) from by omega] at W;omega
 rw[R,bG,aP] at O;generalize m:val ((us.drop j).take (n+1))=S at *;generalize Y:val (us.take j)=low at *;constructor
 ·refine cS (a:=2^(64*j)) ?_;rw[show 2^(64*j)*(2^64*V)=2^(64*(j+1))*V from by rw[D,db,ar]];omega
 ·intro C J;have c:=aW S I;have K:=cu S V;have B:=q3X (l:=us) (cs:=cs) (i:=j) (n:=n+1) C eX;simp only[R,bG,aP,J,Y] at B;refine⟨?_,by rw[aF,h2],?_,?_⟩
  ·rw[br,br,bD,dt,C];omega
  ·rw[B];have h6:2^(64*j)*(S%V)+2^(64*j)≤2^(64*j)*V:=by
    have:=aB (2^(64*j)) c;rw[Nat.mul_succ] at this;exact this
   omega
  ·rw[B,fD (l:=F.set j (S/V)) (by rw[aF];omega),fB eX,cA eX];show _+(S/V+2^64*val (F.drop (j+1)))*_=A;rw[aJ V] at K;refine q4f (X:=val us) O K ?_;rw[← D];exact U
theorem DI.fin {us B:List Nat} {N M a b p:Nat} (h:DI us B 0 N M (b*p) (a*p)) (D:0<p) (hb:0<b):val B=a/b∧val us=(a%b)*p:=by
 obtain⟨-,-,h3,A⟩:=h;simp only[bG,cf,aT,List.drop_zero] at h3 A;have C:a*p/(b*p)=val B:=by
  rw[← A,Nat.add_mul_div_right _ _ (aM hb D),b9 h3,aK]
 have h6:a*p%(b*p)=val us:=by
  rw[← A,eJ,bh h3]
 rw[cW _ _ D] at C;rw[dj] at h6;exact⟨C.symm,h6.symm⟩
/-- The shift that brings a number's highest bit to the top of its last word. -/
theorem lR {l:List Nat} {n:Nat} (h:canon l) (I:l.length=n+1):∃ s:Nat,s≤63∧(s:Int)=64-(Lib.bitLen (l.getD n 0):Int)∧val l*2^s<2^(64*(n+1))∧2^(64*n)≤val l∧2^(64*n)≤val l*2^s:=by
 have M:=jL h I;have J:=ff h.1 n;obtain⟨s,K,L,O,B⟩:=nm (by omega:0<l.getD n 0) J;have h1:=fT (l:=l) (k:=n) eX;rw[aR (show l.length≤n+1 by omega)] at h1;have C:val l=val (l.take n)+2^(64*n)*l.getD n 0:=h1;have h2:=fY h.1 n eX;have A:=ae s;generalize l.getD n 0=x at *;have h3:val l<2^(64*n)*(x+1):=by rw[aE,bV];omega
 have F:2^(64*n)*1≤2^(64*n)*x:=aB _ eX;have D:(x+1)*2^s≤2^64:=by
  have e:(2:Nat)^64=2^(64-s)*2^s:=by rw[← ah];congr 1;omega
  rw[e] at B ⊢;exact au _ (bJ B)
 refine⟨s,K,L,?_,by omega,?_⟩
 ·have E:val l*2^s<2^(64*n)*(x+1)*2^s:=av h3 A;have h6:2^(64*n)*((x+1)*2^s)≤2^(64*n)*2^64:=aB _ D;rw[← ah,show 64*n+64=64*(n+1) from by omega] at h6;rw[ar] at E;omega
 ·have N:val l*1≤val l*2^s:=aB _ A;omega
end Go.Proofs.YtohcneeihdkfgaaGreatDoor.EN
