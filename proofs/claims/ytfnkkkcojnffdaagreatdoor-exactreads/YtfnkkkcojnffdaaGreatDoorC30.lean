/- What is proved here: contracts of package exact: left, over this seat's translation.
What is proved here: contracts of package exact: window, over this seat's translation.
What is proved here: contracts of package exact: right, over this seat's translation.
What is proved here: contracts of package exact: size, over this seat's translation.
What is proved here: contracts of package exact: twos, over this seat's translation.
What is proved here: the library's quotient of two words by one: its arithmetic (no program).
What is proved here: contracts of package exact: the library's quotient of two words by one, over this seat's translation.
What is proved here: contracts of package exact: divideWord, over this seat's translation.
What is proved here: contracts of package exact: digit, over this seat's translation.
What is proved here: long division in words of 64 bits, its arithmetic (no program). -/
import Derived.Test.YtfnkkkcojnffdaaGreatDoorC1
import Derived.Test.YtfnkkkcojnffdaaGreatDoorC8
import Derived.Test.YtfnkkkcojnffdaaGreatDoorC3
import Derived.Test.YtfnkkkcojnffdaaGreatDoorC29
import Derived.Test.YtfnkkkcojnffdaaGreatDoorC5
import Derived.Test.YtfnkkkcojnffdaaGreatDoorC2
import Derived.Test.YtfnkkkcojnffdaaGreatDoorC17
import Derived.Test.YtfnkkkcojnffdaaGreatDoorC22
namespace Go.Proofs.YtfnkkkcojnffdaaGreatDoor.EN
open Go.ChangeShapes Go.WideShapes Go.ChangeAt Go.RowKit
theorem lj (n t:Nat):(List.replicate n 0).getD t 0=0:=by
 rw[ab,List.getElem?_replicate];split<;>rfl
theorem getD_set_ne {l:List Nat} {i t x:Nat} (h:i≠t):(l.set i x).getD t 0=l.getD t 0:=by
 rw[ab,ab,aS h]
theorem mz (x y s:Nat) (L:x<2^64) (K:s≤63) (M:y<2^s):∃ v lo hi:Nat,
  IntKind.u64.wrap ((x:Int)*2^s)=v∧bits .or .u64 (y:Int) (v:Int)=lo∧x/2^(64-s)=hi∧lo<2^64∧hi<2^s∧hi<2^64∧y+x*2^s=lo+2^64*hi:=by
 have R:2^s≤2^63:=ak dT K;have A:=ae s;have D:x*2^s<2^64*2^s:=aD L A;have e0:2^64=2^(64-s)*2^s:=by rw[← ah];congr 1;omega
 have B:x*2^s%2^64=(x%2^(64-s))*2^s:=by rw[e0,cG]
 have F:x/2^(64-s)=x*2^s/2^64:=by rw[e0,cf _ _ A]
 have I:(x%2^(64-s))*2^s+2^s≤2^64:=by
  have h1:x%2^(64-s)<2^(64-s):=aU _ (ae _);have h2:(x%2^(64-s)+1)*2^s≤2^(64-s)*2^s:=aq _ h1;rw[← ah,show 64-s+s=64 from by omega,aH,aW] at h2;exact h2
 have J:x*2^s%2^64%2^s=0:=by rw[B];exact dQ _ _
 have N:x*2^s/2^64<2^s:=Nat.div_lt_of_lt_mul D;have E:((x:Int)*2^s)=((x*2^s:Nat):Int):=by push_cast;rfl
 rw[← B] at I;rw[E,F];clear e0 D B E F;generalize O:x*2^s=v at *;generalize C:2^s=S at *;refine⟨v%2^64,v%2^64+y,v/2^64,?_,?_,rfl,by omega,by omega,by omega,by omega⟩
 ·rw[IntKind.wrap_u64];omega
 ·rw[u64_or_nat _ _ dT dT,dO];subst C;rw[nat_join s _ y J M]
/-- One step of a shift to the left. -/
theorem left_step {cs l:List Nat} {i q s n lo hi:Nat} (C:i+q+1<cs.length) (B:n=64*q+s)
  (hv:val (cs.take (i+q+1))=val (l.take i)*2^n) (A:cs.getD (i+q) 0+l.getD i 0*2^s=lo+2^64*hi):
  val (((cs.set (i+q) lo).set (i+q+1) hi).take (i+1+q+1))=val (l.take (i+1))*2^n:=by
 rw[show i+1+q+1=i+q+1+1 from by omega,en (by rw[av];exact C),en dT,ed l,aH,← hv,ed cs];rw[show 2^(64*i)*l.getD i 0*2^n=2^(64*(i+q))*(l.getD i 0*2^s) from by
  rw[B,ax 64 i q,ah,ah];rw[aj,aj,bX (l.getD i 0)]]
 have h3:2^(64*(i+q))*(cs.getD (i+q) 0+l.getD i 0*2^s)=2^(64*(i+q))*(lo+2^64*hi):=by rw[A]
 rw[ax (2^(64*(i+q))),ax (2^(64*(i+q)))] at h3;rw[show 64*(i+q+1)=64*(i+q)+64 from by omega,ah,aj];omega
theorem gR (w:World) (va:Value) (a n K:Nat) (A:K≤500000) (hn:n≤10000000) (ha:Num w va a) (J:a<2^(64*K)):
  Calls Tryz.prog 118 #[va,.int .i64 (n:Int)] w (ef w (a*2^n)):=by
 by_cases X:n=0
 ·subst X;rw[show ((0:Nat):Int)=0 from rfl];have k:Hid (Num w va a):=ha;clear ha J;go_enter Tryz.func118,Tryz.ntmps118;go_wp2_with fail;go_ret;exact⟨va,rfl,af _,(by rw[bW,bw];exact k.out)⟩
 have bv:((n:Int)==0)=false:=by simp;omega
 clear X;obtain⟨l,hl,ao,rfl⟩:=ha;have cl:=dX ao J;clear J;have Z:=hl.1;obtain⟨pa,ca,rfl,cb,c⟩:=ei hl;have k:=hi9 c;clear c hl;generalize U:l.length=j at *;have HN:=hi9 U;clear U;have cc:(n:Int)/64=((n/64:Nat):Int):=by omega
 have ap:(n:Int)%64=((n%64:Nat):Int):=by omega
 have Y:n=64*(n/64)+n%64:=by omega
 have hs:((n%64:Nat):Int)≤63:=by omega
 have hq:((n/64:Nat):Int)≤312500:=by omega
 generalize n/64=q at *;generalize n%64=s at *;have am:=hi9 Y;have cn:(n:Int)≤10000000:=by omega
 clear Y hn;have bl:=fc (j+q+1) dT;rw[show ((j+q+1:Nat):Int)=(j:Int)+q+1 from by omega] at bl;go_enter Tryz.func118,Tryz.ntmps118;go_wp2_with fail;rw[ap]
 go_loopw [25] (fun vk wr=>∃ (i:Nat) (cs:List Nat),i≤j∧vk= .int .i64 i∧cs.length=j+q+1∧Own wr w.heap.size cs∧val (cs.take (i+q+1))=val (l.take i)*2^n∧cs.getD (i+q) 0<2^s∧(∀ t,i+q<t→cs.getD t 0=0)∧G w wr) (fun vk _=>j-(intOf vk).toNat)
 case atStart=>exact⟨0,List.replicate (j+q+1) 0,bo _,rfl,by simp,eA w (j+q+1) 78,by rw[List.take_replicate,jf];simp [val],by rw[lj];exact ae _,fun t _=>lj _ _,(af _).alloc _⟩
 case round=>
  obtain⟨i,cs,hi,rfl,R,F,I,E,d,hG⟩:=hrel;have HV:=hi9 I;have B:=hi9 R;have M:=hi9 F;have HL:=hi9 E;have HU:=hi9 d;clear I R F E d;by_cases bi:i<j
  ·obtain⟨b1,o1,rfl,O,C⟩:=k.out i bi;have hx:=dW Z i;have bz:=hG.cell (p:=⟨b1,o1+i,none⟩) O C;clear C O;have ho:=Own.cell (w:=wr) (b:=w.heap.size) (l:=cs) (i:=i+q) M.out (by rw[B.out];omega);have hf:=Own.frozen (w:=wr) (b:=w.heap.size) (l:=cs) (i:=i+q) M.out (by rw[B.out];omega);have bq:=Own.cell (w:=wr) (b:=w.heap.size) (l:=cs) (i:=i+q+1) M.out (by rw[B.out];omega);have cd:=Own.frozen (w:=wr) (b:=w.heap.size) (l:=cs) (i:=i+q+1) M.out (by rw[B.out];omega);have hu:=HU.out (i+q+1) dT;rw[hu] at bq;obtain⟨v,lo,L,cr,cx,bu,W,S,D,he⟩:=mz _ _ s hx dT HL.out;have al:=hi9 W;have y:=hi9 S;have o:=hi9 D;have HS:Hid _:=left_step (by rw[B.out];omega) am.out HV.out he;have m:Hid _:=(show ((l.getD i 0:Nat):Int)/2^(64-s)=(L:Int) by rw[← bu];push_cast;rfl);generalize l.getD i 0=x at *;generalize cs.getD (i+q) 0=z at *;have dk:IntKind.i64.wrap ((i:Int)+q)=(i:Int)+q:=by rw[IntKind.wrap_i64];omega
   have cz:((i:Int)+q).toNat=i+q:=by omega
   have ce:(0:Int)≤(i:Int)+q:=by omega
   have ci:(i:Int)+q<(j:Int)+q+1:=by omega
   clear W S D he hu;go_wp2_with fail;refine wp_region_any dV ?_;refine eB (i:=0) (v:= ?_) rfl dV dV dV (fun _ _ _ h=>h) (Or.inl ⟨by rfl,?_⟩) ?_;rotate_left
   ·intro N;first|(go_simp;done)|(go_simp;with_reducible rfl)
   try simp only[Act.put,aA,aI,aJ]
   refine eB (i:=1) (v:= ?_) rfl dV dV dV (fun _ _ _ h=>h) (Or.inl ⟨by rfl,?_⟩) ?_;rotate_left
   ·intro N;first|(go_simp;done)|(go_simp;with_reducible rfl)
   try simp only[Act.put,aA,aI,aJ]
   refine eB (i:=2) (v:= ?_) rfl dV dV dV (fun _ _ _ h=>h) (Or.inl ⟨by rfl,?_⟩) ?_;rotate_left
   ·intro N;first|(go_simp;done)|(go_simp;with_reducible rfl)
   try simp only[Act.put,aA,aI,aJ]
   refine eB (i:=6) (v:= ?_) rfl dV dV dV (fun _ _ _ h=>h) (Or.inl ⟨by rfl,?_⟩) ?_;rotate_left
   ·intro N;first|(go_simp;done)|(go_simp;with_reducible rfl)
   try simp only[Act.put,aA,aI,aJ]
   refine eB (i:=7) (v:= ?_) rfl dV dV dV (fun _ _ _ h=>h) (Or.inl ⟨by rfl,?_⟩) ?_;rotate_left
   ·intro N;first|(go_simp;done)|(go_simp;with_reducible rfl)
   try simp only[Act.put,aA,aI,aJ]
   refine eB (i:=3) (v:= ?_) rfl dV dV dV (fun _ _ _ h=>h) (Or.inl ⟨by rfl,?_⟩) ?_;rotate_left
   ·intro N;first|(go_simp;done)|(go_simp;with_reducible rfl)
   try simp only[Act.put,aA,aI,aJ]
   refine eB (i:=8) (v:= ?_) rfl dV dV dV (fun _ _ _ h=>h) (Or.inl ⟨by rfl,?_⟩) ?_;rotate_left
   ·intro N;first|(go_simp;done)|(go_simp;with_reducible rfl)
   try simp only[Act.put,aA,aI,aJ]
   refine wpAny_ready (rs:=[4]) dV eO ?_;refine AllReady.cons rfl (fun K A=> ?_) AllReady.nil;go_simp;refine A _ _ ?_;clear K A;refine wpAny_ready (rs:=[5]) dV eO ?_;refine AllReady.cons rfl (fun K A=> ?_) AllReady.nil;go_simp;refine A _ _ ?_;clear K A;refine wpAny_ready (rs:=[9]) dV eO ?_;refine AllReady.cons rfl (fun K A=> ?_) AllReady.nil;go_simp;refine A _ _ ?_;clear K A;refine wpAny_ready (rs:=[10]) dV eO ?_;refine AllReady.cons rfl (fun K A=> ?_) AllReady.nil;go_simp;refine A _ _ ?_;clear K A;refine wpAny_ready (rs:=[11]) dV eO ?_;refine AllReady.cons rfl (fun K A=> ?_) AllReady.nil;go_simp;refine A _ _ ?_;clear K A;refine wpAny_done dV ?_ _;go_wp2_with fail
   go_roundw
   case rel=>
    rw[m.out];exact⟨i+1,(cs.set (i+q) lo).set (i+q+1) L,by omega,by go_num,by rw[av,av];exact B.out,Own.grow (Own.set (Own.set M.out (i+q) lo (by rw[B.out];omega) al.out) (i+q+1) L (by rw[av,B.out];omega) o.out) (af _).drew,HS.out,by rw[show i+1+q=i+q+1 from by omega,eh (by rw[av,B.out];omega)];exact y.out,fun t ht=>by rw[getD_set_ne dT,getD_set_ne dT];exact HU.out t dT,((hG.setCell (p:=⟨w.heap.size,i+q,none⟩) (ay _) _).setCell (p:=⟨w.heap.size,i+q+1,none⟩) (ay _) _).drew⟩
   case measure=>simp only[intOf];omega
  ·obtain rfl:i=j:=by omega
   have hT:=hi9 (eC (M.out:Own wr w.heap.size cs) B.out dT);have q2:val cs=val l*2^n:=by
    have h1:=HV.out
    rwa[aw (by rw[B.out];omega),aw (by rw[HN.out];omega)] at h1
   rw[q2] at hT;clear q2;go_wp2_with fail;refine Calls.mono (P:=Tryz.prog) hT.out ?_;rintro e w1 ⟨v1,rfl,an,bn⟩;go_wp2_with fail;go_ret;exact⟨v1,rfl,aa hG an,bn⟩
theorem lZ (l:List Nat):val l=l.getD 0 0+2^64*val (l.drop 1):=by
 cases l with
 |nil=>rfl
 |cons d l=>rfl
theorem fG {l:List Nat} (h:okw l) (i:Nat):val (l.drop i)=val l/2^(64*i):=by
 by_cases hi:i≤l.length
 ·have h1:=et h i hi;have h2:=ez l i hi;rw[h2,de _ _ (ae _),aN h1,az]
 ·rw[aL dT];have h1:=eo h;have h2:2^(64*l.length)≤2^(64*i):=ak dT dT;rw[aN dT];rfl
/-- The 64 digits in twos from place n on. -/
theorem mY {l:List Nat} (h:okw l) {n i s:Nat} (B:n=64*i+s) (C:s≤63):
  val l/2^n%2^64=(l.getD i 0+2^64*l.getD (i+1) 0)/2^s%2^64:=by
 have h1:val l/2^n=val (l.drop i)/2^s:=by rw[fG h,B,ah,bL]
 have h2:=lZ (l.drop i);have h3:=lZ ((l.drop i).drop 1);have g0:(l.drop i).getD 0 0=l.getD i 0:=by rw[getD_drop];rfl
 have g1:((l.drop i).drop 1).getD 0 0=l.getD (i+1) 0:=by rw[getD_drop,getD_drop]
 rw[g0] at h2;rw[g1] at h3;rw[h1,h2,h3];generalize l.getD i 0=x;generalize l.getD (i+1) 0=y;generalize val (((l.drop i).drop 1).drop 1)=V;have e0:2^64=2^s*2^(64-s):=by rw[← ah];congr 1;omega
 have A:x+2^64*(y+2^64*V)=(x+2^64*y)+2^s*(2^64*(2^(64-s)*V)):=by
  have:2^64*(2^64*V)=2^s*(2^64*(2^(64-s)*V)):=by
   rw[bX (2^s),← aj (2^s),← e0]
  omega
 rw[A,de _ _ (ae _),dM]
theorem q25 (x y s:Nat) (K:x<2^64) (N:s≤63):∃ lo v u:Nat,
  x/2^s=lo∧IntKind.u64.wrap ((y:Int)*2^(64-s))=v∧bits .or .u64 (lo:Int) (v:Int)=u∧(x+2^64*y)/2^s%2^64=u:=by
 have A:=ae s;have J:=ae (64-s);have e0:2^64=2^s*2^(64-s):=by rw[← ah];congr 1;omega
 have C:(x+2^64*y)/2^s=x/2^s+y*2^(64-s):=by
  rw[e0,aj,de _ _ A,aF y]
 have B:y*2^(64-s)%2^64=(y%2^s)*2^(64-s):=by rw[e0,cG]
 have E:x/2^s<2^(64-s):=Nat.div_lt_of_lt_mul (by rw[← e0];exact K);have F:(y%2^s)*2^(64-s)+2^(64-s)≤2^64:=by
  have h1:y%2^s<2^s:=aU _ A;have h2:(y%2^s+1)*2^(64-s)≤2^s*2^(64-s):=aq _ h1;rw[← e0,aH,aW] at h2;exact h2
 have I:y*2^(64-s)%2^64%2^(64-s)=0:=by rw[B];exact dQ _ _
 have D:((y:Int)*2^(64-s))=((y*2^(64-s):Nat):Int):=by push_cast;rfl
 rw[← B] at F;rw[D,C];clear e0 C B D;have L:2^(64-s)≤2^64:=ak dT dT;generalize M:y*2^(64-s)=v at *;generalize x/2^s=lo at *;refine⟨lo,v%2^64,v%2^64+lo,rfl,?_,?_,?_⟩
 ·rw[IntKind.wrap_u64];omega
 ·rw[u64_or_nat _ _ dT dT,dO,nat_join (64-s) _ lo I E]
 ·generalize 2^(64-s)=r at *;omega
theorem ma (w:World) (va:Value) (l:List Nat) (n:Nat) (hn:n≤100000000) (U:Sl w va l) (o:l.length≤1040000):
  Calls Tryz.prog 176 #[va,.int .i64 (n:Int)] w fun e w'=>e= .returned (.int .u64 ((val l/2^n%2^64:Nat):Int))∧G w w':=by
 have A:=U.1;obtain⟨pa,ca,rfl,i,K⟩:=ei U;have D:=hi9 K;clear K U;generalize I:l.length=j at *;have L:=hi9 I;clear I;have k:(n:Int)/64=((n/64:Nat):Int):=by omega
 have m:(n:Int)%64=((n%64:Nat):Int):=by omega
 have J:n=64*(n/64)+n%64:=by omega
 have hs:((n%64:Nat):Int)≤63:=by omega
 have hq:((n/64:Nat):Int)≤10000000:=by omega
 generalize n/64=q at *;generalize n%64=s at *;rw[mY A J dT];have al:(n:Int)≤100000000:=by omega
 obtain⟨lo,v,u,h1,h2,h3,O⟩:=q25 (l.getD q 0) (l.getD (q+1) 0) s (dW A q) dT;rw[O];have hx:=dW A q;have S:((l.getD q 0:Nat):Int)/2^s=(lo:Int):=by rw[← h1];push_cast;rfl
 have B:l.getD (q+1) 0=0→u=lo:=by
  intro e;rw[e,bm,aP,h1] at O;have:lo≤l.getD q 0:=by rw[← h1];exact bh _ _
  omega
 have C:l.getD q 0=0→lo=0:=by
  intro e;rw[e,Nat.zero_div] at h1;exact h1.symm
 clear h1 O J hn;by_cases Y:q<j
 ·obtain⟨b1,o1,rfl,F,c⟩:=D.out q Y;by_cases h6:q+1<j
  ·obtain⟨b2,o2,N,R,d⟩:=D.out (q+1) h6;injection N with N;injection N with W X;subst W X;have E:(q:Int)+1<j:=by omega
   generalize l.getD q 0=x at *;generalize l.getD (q+1) 0=y at *;clear F R D A;go_enter Tryz.func176,Tryz.ntmps176;go_wp2_with fail;go_ret;exact⟨rfl,af _⟩
  ·have M:=B (by rw[ab,bj (by rw[L.out];omega)];rfl);subst M;have E:¬ (q:Int)+1<j:=by omega
   clear B C h2 h3 h6;generalize l.getD q 0=x at *;clear F D A;go_enter Tryz.func176,Tryz.ntmps176;go_wp2_with fail;go_ret;exact⟨rfl,af _⟩
 ·have M:=B (by rw[ab,bj (by rw[L.out];omega)];rfl);have e0:=C (by rw[ab,bj (by rw[L.out];omega)];rfl);subst M;subst e0;have Z:¬ (q:Int)<j:=by omega
  have E:¬ (q:Int)+1<j:=by omega
  clear B C h2 h3 S hx D A;go_enter Tryz.func176,Tryz.ntmps176;go_wp2_with fail;go_ret;exact⟨rfl,af _⟩
/-- One step of a shift to the right. -/
theorem right_step {zs:List Nat} {A n k N u:Nat} (B:k<N) (C:zs.length=N) (hv:val (zs.take k)=A/2^n%2^(64*k)) (hu:u=A/2^(n+64*k)%2^64):
  val ((zs.set k u).take (k+1))=A/2^n%2^(64*(k+1)):=by
 rw[en dT,hv,hu,show 64*(k+1)=64*k+64 from by omega,ah (2) (64*k) 64,Nat.mod_mul,ah,bL]
theorem oM {A n q j:Nat} (B:A<2^(64*j)) (C:64*q≤n) (D:q≤j):A/2^n%2^(64*(j-q))=A/2^n:=by
 apply aM;apply Nat.div_lt_of_lt_mul;rw[← ah];exact ad B (ak dT dT)
set_option maxRecDepth 20000 in
theorem fL (w:World) (va:Value) (a n K:Nat) (hK:K≤500000) (hn:n≤10000000) (Z:Num w va a) (E:a<2^(64*K)):
  Calls Tryz.prog 120 #[va,.int .i64 (n:Int)] w (ef w (a/2^n)):=by
 by_cases S:n=0
 ·subst S;rw[show ((0:Nat):Int)=0 from rfl];have HA:Hid (Num w va a):=Z;clear Z E;go_enter Tryz.func120,Tryz.ntmps120;go_wp2_with fail;go_ret;exact⟨va,rfl,af _,(by rw[bW,dD];exact HA.out)⟩
 have al:((n:Int)==0)=false:=by simp;omega
 clear S;obtain⟨l,U,c,rfl⟩:=Z;have bv:=dX c E;clear E;have J:=eo U.1;have HL:Hid _:=fun (w':World) (g:G w w') (t:Nat) (ht:t≤100000000)=>ma w' va l t ht (Sl.G U g) dT;obtain⟨pa,ca,rfl,ao,-⟩:=ei U;clear U;generalize O:l.length=j at *;have HN:=hi9 O;clear O;have ap:(n:Int)/64=((n/64:Nat):Int):=by omega
 have o:64*(n/64)≤n:=by omega
 have am:n<64*(n/64)+64:=by omega
 have hq:((n/64:Nat):Int)≤312500:=by omega
 generalize n/64=q at *;have cb:(n:Int)≤10000000:=by omega
 by_cases h:q≤j
 ·have HE:=hi9 (oM J o h);obtain⟨N,hN⟩:∃ N,N=j-q:=⟨_,rfl⟩;rw[← hN] at HE;have bq:(j:Int)-q=N:=by omega
  have d:¬ j<q:=by omega
  have bi:¬ (j:Int)-q<0:=by omega
  have bl:¬ (0:Int)>(j:Int)-q:=by omega
  have bn:¬ (0:Int)>(N:Int):=by omega
  have an:(N:Int)≤500000:=by omega
  have R:=fc N dT;clear J hN;go_enter Tryz.func120,Tryz.ntmps120;go_wp2_with fail
  go_loopw [19] (fun y wr=>∃ (k:Nat) (zs:List Nat),k≤N∧y= .int .i64 k∧zs.length=N∧Own wr w.heap.size zs∧val (zs.take k)=val l/2^n%2^(64*k)∧G w wr) (fun y _=>N-(intOf y).toNat)
  case atStart=>exact⟨0,List.replicate N 0,bo _,rfl,by simp,eA w N 78,by simp [val,Nat.mod_one],(af _).alloc _⟩
  case round=>
   obtain⟨k,zs,hk,rfl,D,B,C,Y⟩:=hrel;have HV:=hi9 C;have M:=hi9 D;have HO:=hi9 B;by_cases m:k<N
   ·have HW:=hi9 (HL.out wr Y (n+64*k) dT);have hu:val l/2^(n+64*k)%2^64<2^64:=aU _ (ae _);have HS:=hi9 (right_step m D C (u:=val l/2^(n+64*k)%2^64) rfl);generalize val l/2^(n+64*k)%2^64=u at *;rw[show ((n+64*k:Nat):Int)=(n:Int)+64*k from by omega] at HW;have HU:=hi9 hu;have bu:(k:Int)≤500000:=by omega
    clear C D B hu;go_wp2_with fail;refine Calls.mono (P:=Tryz.prog) HW.out ?_;rintro e w1 ⟨rfl,I⟩;have A:=Own.grow HO.out I;have hc:=Own.cell (i:=k) A (by rw[M.out];omega);have hf:=Own.frozen (i:=k) A (by rw[M.out];omega);have X:Hid _:=Own.set A k u (by rw[M.out];omega) HU.out;have W:=hi9 ((aa Y I).setCell (p:=⟨w.heap.size,k,none⟩) (ay _) (.int .u64 (u:Int)));generalize zs.getD k 0=z at *;clear A I;go_wp2_with fail
    go_roundw
    case rel=>exact⟨k+1,zs.set k u,by omega,by go_num,by rw[av];exact M.out,X.out,HS.out,W.out⟩
    case measure=>simp only[intOf];omega
   ·obtain rfl:k=N:=by omega
    have hT:=hi9 (eC B D dT);have q2:val zs=val l/2^n:=by
     have h1:=HV.out;rw[aw (by rw[M.out];omega),HE.out] at h1;exact h1
    rw[q2] at hT;clear q2 C D B;go_wp2_with fail;refine Calls.mono (P:=Tryz.prog) hT.out ?_;rintro e w1 ⟨s,rfl,F,L⟩;go_wp2_with fail;go_ret;exact⟨s,rfl,aa Y F,L⟩
 ·have hz:val l/2^n=0:=by
   apply aN;have:2^(64*j)≤2^n:=ak dT dT;omega
  rw[hz];have d:j<q:=by omega
  have bz:max ((j:Int)-q) 0=0:=by omega
  have R:=fc 0 dT;rw[show ((0:Nat):Int)=0 from rfl] at R;have HT:Hid _:=eC (n:=0) (cs:=[]) (by have:=eA w 0 78;simpa using this) rfl dT;clear J h hz;go_enter Tryz.func120,Tryz.ntmps120;go_wp2_with fail;refine wp_loop_rounds 1 ?_;rw[rounds_succ];go_wp2_with fail;refine Calls.mono (P:=Tryz.prog) HT.out ?_;rintro e w1 ⟨s,rfl,F,L⟩;go_wp2_with fail;go_ret;exact⟨s,rfl,aa ((af _).alloc _) F,L⟩
/-- How many digits in twos a number has. -/
def blen (a:Nat):Nat:=if a=0 then 0 else a.log2+1
theorem eW {x:Nat} (A:x≠0) (C:x<2^64):Lib.bitLen x=x.log2+1:=by
 have h1:=(cV (k:=x.log2) A).1 rfl;have h2:=Lib.bitLen_shift x.log2 x h1.1 C;have h3:x/2^x.log2=1:=by
  have B:=h1.2;rw[bF] at B;have D:=ae x.log2;apply Nat.div_eq_of_lt_le
  ·omega
  ·omega
 rw[h3,show Lib.bitLen 1=1 from by decide] at h2;exact h2
theorem gi {l:List Nat} {n:Nat} (h:canon l) (A:l.length=n+1):l.getD n 0≠0:=by
 have B:l≠[]:=by intro e;rw[e] at A;simp at A
 have:=h.2 B;rw[List.getLast_eq_getElem] at this;rw[ab,aB dT];simpa [A] using this
theorem pg {l:List Nat} {n:Nat} (h:canon l) (D:l.length=n+1):blen (val l)=64*n+Lib.bitLen (l.getD n 0):=by
 have A:=gi h D;have E:=dW h.1 n;have h3:=ew (l:=l) (k:=n) dT;rw[aL dT] at h3;have F:=et h.1 n dT;simp only[val,bm,aP] at h3;rw[eW A E];have h1:=(cV (k:=(l.getD n 0).log2) A).1 rfl;generalize l.getD n 0=x at *;generalize val (l.take n)=T at *;have J:=ae (64*n);have C:2^(64*n)*2^x.log2≤2^(64*n)*x:=au _ h1.1;have h6:2^(64*n)*(x+1)≤2^(64*n)*2^(x.log2+1):=au _ h1.2;rw[← ah] at C h6;rw[ax] at h6;have I:=ae (64*n+x.log2);have B:val l≠0:=by omega
 unfold blen;rw[if_neg B,(cV B).2 ⟨(by omega:2^(64*n+x.log2)≤val l),(by rw[show 64*n+x.log2+1=64*n+(x.log2+1) from by omega];omega)⟩];omega
theorem iO (w:World) (va:Value) (a K:Nat) (s:K≤1000000) (U:Num w va a) (D:a<2^(64*K)):
  Calls Tryz.prog 117 #[va] w fun e k=>e= .returned (.int .i64 (blen a))∧G w k:=by
 obtain⟨l,I,C,rfl⟩:=U;have d:=dX C D;clear D;have B:=I.1;obtain⟨pa,o,rfl,Z,F⟩:=ei I;have M:=hi9 F;clear F I;generalize A:l.length=j at *;have N:=hi9 A;by_cases E:j=0
 ·subst E;have J:l=[]:=aC N.out;subst J;rw[show blen (val [])=0 from rfl];clear A;go_enter Tryz.func117,Tryz.ntmps117;go_wp2_with fail;go_ret;exact⟨rfl,af _⟩
 ·obtain⟨n,R⟩:∃ n,j=n+1:=⟨j-1,by omega⟩;rw[pg C (A.trans R)];obtain⟨m,o1,rfl,S,Y⟩:=M.out n dT;have L:=dW B n;have O:=hi9 (Tryz.bits_Len64 (l.getD n 0:Int) w dT dT);rw[Int.toNat_natCast] at O;generalize l.getD n 0=x at *;have hle:Lib.bitLen x≤64:=by
   by_cases h:x=0
   ·subst h;decide
   ·rw[eW h L];have:=(cA h).2 L;omega
  generalize Lib.bitLen x=u at *;have W:(n:Int)≤1000000:=by omega
  have c:(j:Int)-1=n:=by omega
  have i:n<j:=by omega
  have X:(u:Int)≤64:=by omega
  have y:((j:Int)==0)=false:=by simp;omega
  clear A R E N C B M L hle;go_enter Tryz.func117,Tryz.ntmps117;go_wp2_with fail;refine Calls.mono (P:=Tryz.prog) O.out ?_;rintro e w1 ⟨rfl,rfl⟩;go_wp2_with fail;go_ret;exact⟨er dT,af _⟩
theorem jy:∀ a:Nat,0<a→∃ j k,a=(2*j+1)*2^k:=by
 intro a
 induction a using Nat.strongRecOn with
 |ind a A=>
  intro h;by_cases B:a%2=1
  ·exact⟨a/2,0,by omega⟩
  ·obtain⟨j,k,e⟩:=A (a/2) dT dT;exact⟨j,k+1,by rw[bF,← aj,← e];omega⟩
theorem lE:∀ (l:List Nat),val l≠0→∃ i,i<l.length∧(∀ t,t<i→l.getD t 0=0)∧l.getD i 0≠0
 |[],h=>absurd rfl h
 |d::l,h=>by
  by_cases A:d=0
  ·subst A;have B:val l≠0:=fun e=>h (by show 0+2^64*val l=0;rw[e]);obtain⟨i,h1,h2,h3⟩:=lE l B;refine⟨i+1,by simp;omega,fun t C=> ?_,h3⟩;cases t with
   |zero=>rfl
   |succ t=>exact h2 t dT
  ·exact⟨0,by simp,fun t C=>by omega,A⟩
theorem take_zero {l:List Nat}:∀ {i:Nat},(∀ t,t<i→l.getD t 0=0)→val (l.take i)=0
 |0,_=>by simp [val]
 |i+1,h=>by
  rw[ed,take_zero (fun t A=>h t dT),h i dT];simp
theorem qk {a b x y:Nat} (h:(2*a+1)*2^x=(2*b+1)*2^y):x=y:=by
 have key:∀ {a b x y:Nat},(2*a+1)*2^x=(2*b+1)*2^y→x<y→False:=by
  intro a b x y h B;have e:2^y=2*2^(y-x-1)*2^x:=by rw[← Nat.pow_succ',← ah];congr 1;omega
  rw[e,← aj] at h;have:=Nat.mul_right_cancel (ae x) h;have h3:(2*b+1)*(2*2^(y-x-1))=2*((2*b+1)*2^(y-x-1)):=by ac_rfl
  omega
 rcases Nat.lt_trichotomy x y with A|A|A
 ·exact(key h A).elim
 ·exact A
 ·exact(key h.symm A).elim
theorem q0W {l:List Nat} {i j k A t:Nat} (hi:i<l.length) (E:∀ t,t<i→l.getD t 0=0) (D:l.getD i 0=(2*A+1)*2^t) (F:t<64) (h:val l=(2*j+1)*2^k):k=64*i+t:=by
 have h1:=ew hi;rw[take_zero E,D,az] at h1;have e:2^64=2^(64-t)*2^t:=by rw[← ah];congr 1;omega
 have B:2^(64-t)=2*2^(64-t-1):=by rw[← Nat.pow_succ'];congr 1;omega
 have C:2^(64*i)*((2*A+1)*2^t+2^64*val (l.drop (i+1)))=(2*(A+2^(64-t-1)*val (l.drop (i+1)))+1)*2^(64*i+t):=by
  rw[e,B,ah];generalize val (l.drop (i+1))=V;generalize 2^(64*i)=P;generalize 2^t=T;generalize 2^(64-t-1)=S;rw[show (2*A+1)*T+2*S*T*V=(2*(A+S*V)+1)*T from by
   rw[show 2*S*T*V=2*(S*V)*T from by ac_rfl,← aH]
   congr 1
   omega]
  ac_rfl
 rw[C,h] at h1;exact qk h1
theorem iQ (w:World) (va:Value) (a j k K:Nat) (hK:K≤1000000) (F:Tab w) (ha:Num w va a) (C:a<2^(64*K)) (S:a=(2*j+1)*2^k):
  Calls Tryz.prog 116 #[va] w fun e w'=>e= .returned (.int .i64 k)∧G w w':=by
 obtain⟨l,W,D,rfl⟩:=ha;have ao:=dX D C;clear C;have B:=W.1;obtain⟨pa,ca,rfl,an,E⟩:=ei W;have J:=hi9 E;clear E W;have y:val l≠0:=by rw[S];exact ct dT (Nat.ne_of_gt (ae k))
 obtain⟨i,hi,d,R⟩:=lE l y;have I:=dW B i;obtain⟨jj,t,A⟩:=FT.odd_part _ R;have Z:t<64:=by rw[A] at I;exact FT.tz_lt I
 have U:=q0W hi d A Z S;have o:Hid _:=fun w F=>tz_c (l.getD i 0) jj t w F I A;obtain⟨b1,o1,rfl,M,O⟩:=J.out i hi;have s:Hid (∀ q,q<i→w.cell? ⟨b1,o1+q,none⟩=some (.int .u64 0)):=by
  intro q hq;obtain⟨b2,o2,e,-,N⟩:=J.out q dT;injection e with e;injection e with e1 e2;subst e1;subst e2;rw[d q hq] at N;exact N
 generalize l.getD i 0=x at *;have c:((x:Int)==0)=false:=by simp;exact R
 generalize X:l.length=n at *;have HK:Hid (k=64*i+t):=U;have HI:Hid (i<n):=hi;have ap:(n:Int)≤1000000:=by omega
 clear R A I d y S U B D J X;go_enter Tryz.func116,Tryz.ntmps116;go_wp2_with fail
 go_loop [3] (fun m=>∃ q:Nat,q≤i∧m= .int .i64 q) (fun m=>i-(intOf m).toNat)
 case atStart=>exact⟨0,by omega,rfl⟩
 case round=>
  obtain⟨q,hq,rfl⟩:=hrel;have bi:(q:Int)<n:=by have:=HI.out;omega
  by_cases Y:q=i
  ·subst Y;have L:=hi9 (o.out w F);clear s o F M;go_wp2_with fail;refine Calls.mono (P:=Tryz.prog) L.out ?_;rintro e w1 ⟨rfl,g1⟩;have U:=HK.out;have al:(t:Int)<64:=by omega
   go_wp2_with fail;go_ret;exact⟨er dT,g1⟩
  ·have N:=s.out q dT;have am:((0:Int)==0)=true:=rfl;clear O c;go_wp2_with fail
   go_round
   case rel=>exact⟨q+1,by omega,by go_num⟩
   case measure=>simp [intOf];omega
/-- One half digit: h and u2 by top and next, in digits of B. -/
theorem half_start {B h top next u2:Nat} (A:0<top) (hu:u2<B):h*B+u2<(h/top+1)*(top*B+next):=by
 have h1:=Nat.lt_div_mul_add A (a:=h);have h2:h+1≤(h/top+1)*top:=by rw[aH,aW];omega
 generalize h/top=g at *;have h3:(h+1)*B≤(g+1)*top*B:=aq _ h2;have C:(g+1)*(top*B+next)=(g+1)*top*B+(g+1)*next:=by rw[ax,aj]
 have D:(h+1)*B=h*B+B:=by rw[aH,aW]
 omega
theorem nz {B g r h top next:Nat} (A:g*top+r=h):g*(top*B+next)+r*B=h*B+g*next:=by
 rw[← A,ax,aH,aj];omega
theorem k7 {B g r h top next u2:Nat} (A:g*top+r=h) (C:r*B+u2<g*next):h*B+u2<g*(top*B+next):=by
 have:=nz (B:=B) (next:=next) A;omega
theorem gQ {B g h top next u2:Nat} (A:h<top*B+next) (hu:u2<B) (C:B≤g):h*B+u2<g*(top*B+next):=by
 have h1:B*(top*B+next)≤g*(top*B+next):=aq _ C;have h2:(h+1)*B≤(top*B+next)*B:=aq _ A;rw[aF B] at h1;rw[aH,aW] at h2;omega
theorem iu {B g r h top next u2:Nat} (A:g*top+r=h) (C:g*next≤r*B+u2):g*(top*B+next)≤h*B+u2:=by
 have:=nz (B:=B) (next:=next) A;omega
theorem lp {B g r h top next u2:Nat} (D:h<top*B+next) (F:next<B) (E:g*top+r=h) (A:B≤r):g<B∧g*next≤r*B+u2:=by
 have h1:g*top<B*top:=by rw[aF B top];omega
 have h2:g<B:=bN h1;have h3:g*next≤B*B:=cj dT dT
 have C:B*B≤r*B:=aq _ A;exact⟨h2,by omega⟩
theorem jq {B g h top next u2:Nat} (A:h<top*B+next) (hu:u2<B) (C:g*(top*B+next)≤h*B+u2):g<B:=by
 by_cases h:g<B
 ·exact h
 ·have:=gQ (next:=next) A hu (by omega:B≤g);omega
/-- The words that the two halves begin with. -/
theorem q0j (hi lo y s:Nat) (S:hi<y) (d:lo<2^64) (k:s≤63) (O:2^63≤y*2^s) (E:y*2^s<2^64):∃ Y H L h top next U u1 u0:Nat,
  IntKind.u64.wrap ((y:Int)*2^s)=Y∧(Y:Int)/4294967296=top∧bits .and .u64 (Y:Int) 4294967295=next∧IntKind.u64.wrap ((hi:Int)*2^s)=H∧(lo:Int)/2^(64-s)=L∧bits .or .u64 (H:Int) (L:Int)=h∧
  IntKind.u64.wrap ((lo:Int)*2^s)=U∧(U:Int)/4294967296=u1∧bits .and .u64 (U:Int) 4294967295=u0∧
  Y=y*2^s∧Y=top*2^32+next∧next<2^32∧2^31≤top∧top<2^32∧h<Y∧u1<2^32∧u0<2^32∧h*2^64+(u1*2^32+u0)=(hi*2^64+lo)*2^s:=by
 obtain⟨P,A⟩:∃ P,P=2^s:=⟨_,rfl⟩;obtain⟨R,K⟩:∃ R,R=2^(64-s):=⟨_,rfl⟩;have B:P*R=2^64:=by rw[A,K,← ah];congr 1;omega
 have J:0<P:=by rw[A];exact ae _
 have D:0<R:=by rw[K];exact ae _
 have C:(2:Int)^s=(P:Int):=by rw[A];push_cast;rfl
 have M:(2:Int)^(64-s)=(R:Int):=by rw[K];push_cast;rfl
 rw[← A] at O E;have j:hi*P+P≤y*P:=by
  have:=aq P S;rw[Nat.succ_mul] at this;exact this
 have F:lo/R<P:=by
  rw[aX D];omega
 have c:lo*P%2^64=(lo%R)*P:=by rw[← B,aF P R,cG]
 have i:=bY lo R;have W:lo%R<R:=aU _ D;have N:(lo%R)*P<2^64:=by rw[← B,aF P R];exact aD W J
 have I:hi*P%2^s=0:=by rw[← A];exact dQ _ _
 refine⟨y*P,hi*P,lo/R,hi*P+lo/R,y*P/2^32,y*P%2^32,(lo%R)*P,(lo%R)*P/2^32,(lo%R)*P%2^32,?_,by omega,?_,?_,?_,?_,?_,by omega,?_,by rw[A],by omega,by omega,by omega,by omega,by omega,by omega,by omega,?_⟩
 ·rw[C,IntKind.wrap_u64,← aV];omega
 ·exact FT.and_mask _ 32 E dT
 ·rw[C,IntKind.wrap_u64,← aV];omega
 ·rw[M,← dm]
 ·rw[u64_or_nat _ _ dT dT,nat_join s _ (lo/R) I (by rw[← A];exact F)]
 ·rw[C,IntKind.wrap_u64,← aV,← c];omega
 ·exact FT.and_mask _ 32 N dT
 ·rw[← A,aH,aH];have X:(lo%R)*P/2^32*2^32+(lo%R)*P%2^32=(lo%R)*P:=by omega
  rw[X,← B];have Z:lo*P=R*(lo/R)*P+(lo%R)*P:=by rw[← aH,i]
  rw[Z,show lo/R*(P*R)=R*(lo/R)*P from by ac_rfl,show hi*P*(P*R)=hi*(P*R)*P from by ac_rfl];omega
/-- What both halves come to. -/
theorem mn {B hi lo y s Y h u1 u0 g h2 g2 R:Nat} (O:0<y) (A:Y=y*2^s) (M:h*(B*B)+(u1*B+u0)=(hi*(B*B)+lo)*2^s) (J:g*Y+h2=h*B+u1) (K:g2*Y+R=h2*B+u0) (F:R<Y):
  g*B+g2=(hi*(B*B)+lo)/y∧R/2^s=(hi*(B*B)+lo)%y:=by
 have I:=ae s;generalize hi*(B*B)+lo=N at *;have L:(g*B+g2)*Y+R=N*2^s:=by
  rw[← M,aH,bR,K,← bR,← aj,show g*B*Y+h2*B=(g*Y+h2)*B from by rw[aH];congr 1;ac_rfl,J,aH,bR]
 generalize g*B+g2=Q at *;have C:R=(N-Q*y)*2^s:=by
  rw[Nat.sub_mul,← L,A,aj];omega
 have D:N-Q*y<y:=by
  rw[C,A] at F;exact bN F
 have h6:Q*y≤N:=by
  refine Nat.le_of_mul_le_mul_right (c:=2^s) ?_ I;rw[aj,← A];omega
 rw[C,cD _ I];have E:N=(N-Q*y)+Q*y:=by omega
 constructor
 ·rw[E,dz _ _ O,aN D];omega
 ·conv=>rhs;rw[E]
  rw[dd,aM D]
theorem oA {hi lo y s Y h u1 u0 g h2 g2 R:Nat} (K:0<y) (J:Y=y*2^s) (C:h*2^64+(u1*2^32+u0)=(hi*2^64+lo)*2^s) (D:g*Y+h2=h*2^32+u1) (E:g2*Y+R=h2*2^32+u0) (I:R<Y):
  g*2^32+g2=(hi*2^64+lo)/y∧R/2^s=(hi*2^64+lo)%y:=by
 obtain⟨B,F⟩:∃ B,B=2^32:=⟨_,rfl⟩;have A:2^64=B*B:=by rw[F]
 rw[A] at C ⊢;rw[← F] at C D E ⊢;exact mn K J C D E I
/-- The words of a half. -/
theorem pT (h top:Nat) (E:h<2^64) (F:2^31≤top) (D:top<2^32):∃ g p r:Nat,IntKind.u64.wrap ((h:Int)/top)=g∧IntKind.u64.wrap ((g:Int)*top)=p∧IntKind.u64.wrap ((h:Int)-p)=r∧g=h/top∧g*top+r=h∧r<2^32∧g<2^33:=by
 have A:=bY h top;have C:=aU h (show 0<top by omega);have B:h/top<2^33:=by rw[aX dT];omega
 refine⟨h/top,h/top*top,h%top,?_,?_,?_,rfl,by rw[aF];exact A,by omega,B⟩
 ·rw[← dm,IntKind.wrap_u64];generalize h/top=q at *;omega
 ·rw[← aV,IntKind.wrap_u64];rw[aF] at A;generalize h/top*top=q at *;omega
 ·rw[aF] at A;rw[IntKind.wrap_u64];generalize h/top*top=q at *;omega
/-- The words that are compared. -/
theorem pw (g next r u2:Nat) (B:g<2^32) (C:next<2^32) (D:r<2^32) (hu:u2<2^32):∃ p A q:Nat,IntKind.u64.wrap ((g:Int)*next)=p∧IntKind.u64.wrap (4294967296*(r:Int))=A∧IntKind.u64.wrap ((A:Int)+u2)=q∧p=g*next∧q=r*2^32+u2:=by
 have h1:g*next≤2^32*2^32-2^33+1:=by
  have:g*next≤(2^32-1)*(2^32-1):=cj dT dT
  omega
 refine⟨g*next,r*2^32,r*2^32+u2,?_,?_,?_,rfl,rfl⟩
 ·rw[← aV,IntKind.wrap_u64];omega
 ·rw[IntKind.wrap_u64];omega
 ·rw[IntKind.wrap_u64];omega
/-- The words of what is left of a half. -/
theorem qz (h u2 g Y:Nat) (h1:g*Y≤h*2^32+u2) (h2:h*2^32+u2<(g+1)*Y) (B:Y<2^64):∃ A a2 a3 R:Nat,IntKind.u64.wrap ((h:Int)*4294967296)=A∧IntKind.u64.wrap ((A:Int)+u2)=a2∧IntKind.u64.wrap ((g:Int)*Y)=a3∧IntKind.u64.wrap ((a2:Int)-a3)=R∧g*Y+R=h*2^32+u2∧R<Y:=by
 rw[aH,aW] at h2;refine⟨h*2^32%2^64,(h*2^32%2^64+u2)%2^64,g*Y%2^64,h*2^32+u2-g*Y,?_,?_,?_,?_,?_,?_⟩
 ·rw[IntKind.wrap_u64];omega
 ·rw[IntKind.wrap_u64];omega
 ·rw[← aV,IntKind.wrap_u64];generalize g*Y=X at *;omega
 ·rw[IntKind.wrap_u64];generalize g*Y=X at *;omega
 ·generalize g*Y=X at *;omega
 ·generalize g*Y=X at *;omega
/-- The quotient of two words by one. -/
def iD (n y:Nat) (w:World) (e:Ending) (A:World):Prop:=e= .returned (.tuple #[.int .u64 ((n/y:Nat):Int),.int .u64 ((n%y:Nat):Int)])∧G w A
theorem qA {a A b B:Int} (h1:a=A) (h2:b=B):Ending.returned (.tuple #[.int .u64 a,.int .u64 b])= .returned (.tuple #[.int .u64 A,.int .u64 B]):=by rw[h1,h2]
theorem q0k (w:World) (lo y:Nat) (E:lo<2^64) (F:0<y):
  Calls Tryz.prog 160 #[.int .u64 0,.int .u64 (lo:Int),.int .u64 (y:Int)] w (iD lo y w):=by
 have h1:((y:Int)==0)=false:=by simp;omega
 have h2:decide ((y:Int)≤0)=false:=by simp;omega
 have h3:((0:Int)==0)=true:=rfl;have I:y≠0:=by omega
 have hle:=bh lo y;have J:IntKind.u64.wrap ((lo:Int)/y)=((lo/y:Nat):Int):=by
  rw[← dm,IntKind.wrap_u64];generalize lo/y=q at *;omega
 have B:(lo:Int)%y=((lo%y:Nat):Int):=by rw[cT]
 have C:=hi9 B;unfold iD;clear B;generalize lo/y=q at *;generalize lo%y=r at *;go_enter Tryz.func160,Tryz.ntmps160;go_wp2_with fail;refine ee dV dV ?_;intro W D;clear D
 repeat (go_big_quiet_step (fail))
 refine wpQuiet_nil ?_;intro K A;go_wp2_with fail
 go_ret2
 exact⟨qA rfl C.out,A⟩
set_option maxHeartbeats 4000000 in
set_option maxRecDepth 100000 in
theorem q0i (w:World) (hi lo y s:Nat) (eb:hi<y) (ia:0<hi) (ec:lo<2^64) (hs:s≤63) (dr:2^63≤y*2^s) (cc:y*2^s<2^64)
   (HL:∀ w,Calls Tryz.prog 126 #[.int .u64 (y:Int)] w fun e w'=>e= .returned (.int .i64 s)∧w'=w):
  Calls Tryz.prog 160 #[.int .u64 (hi:Int),.int .u64 (lo:Int),.int .u64 (y:Int)] w (iD (hi*2^64+lo) y w):=by
 have h1:((y:Int)==0)=false:=by simp;omega
 have h2:decide (y≤hi)=false:=by simp;omega
 have h3:((hi:Int)==0)=false:=by simp;omega
 obtain⟨Y,H,L,h,top,next,U,u2,u0,x1,x2,x3,x4,x5,x6,x7,x8,x9,y1,y2,y3,y4,y5,y6,y7,y8,y9⟩:=q0j hi lo y s eb ec hs dr cc;have d:Hid (Y<2^64):=by show Y<2^64;rw[y1];exact cc
 obtain⟨k,p0,cn,z1,z2,z3,z4,z5,z6,z7⟩:=pT h top (by have:=d.out;omega) y4 y5;obtain⟨B,hB⟩:∃ B,B=4294967296:=⟨_,rfl⟩;have D:Hid (B=4294967296):=hB;have bv:Hid (h<top*B+next):=by show h<top*B+next;rw[hB];omega
 have bq:Hid (u2<B):=by show u2<B;omega
 have dk:Hid (next<B):=by show next<B;omega
 have hf:Hid (k<8589934592):=by show k<8589934592;omega
 have hn:Hid (cn<4294967296):=z6;have hj:Hid (k*top+cn=h):=z5;have hq:Hid (h*B+u2<(k+1)*(top*B+next)):=by
  show h*B+u2<(k+1)*(top*B+next);rw[z4];exact half_start dT bq.out
 have ek:next<4294967296:=y3
 have ih:u2<4294967296:=y7;have kk:(top:Int)≤4294967295:=by omega
 have ib:top≠0:=by omega
 have kr:(s:Int)≤63:=by omega
 have hw:Hid (Y=y*2^s):=y1;have o:Hid (Y=top*4294967296+next):=y2;have hp:Hid (h*2^64+(u2*2^32+u0)=(hi*2^64+lo)*2^s):=y9;have gg:u0<4294967296:=y8;have dl:Hid (2^31≤top):=y4;have kq:Hid (h<Y):=y6;have ht:Hid (0<y):=by show 0<y;omega
 have HL:=hi9 HL;clear y1 y2 y3 y4 y5 y6 y7 y8 y9 z4 z5 z6 z7 dr cc hB;go_enter Tryz.func160,Tryz.ntmps160;go_wp2_with fail;refine Calls.mono (P:=Tryz.prog) (HL.out _) ?_;rintro e w1 ⟨rfl,rfl⟩;go_wp2_with fail;clear h1 h2 h3 x1 x2 x3 x4 x5 x6 x7 x8 x9 z1 z2 z3 HL eb ia ec
 go_loop [15,16] (fun vg vr=>∃ g r:Nat,vg= .int .u64 g∧vr= .int .u64 r∧g<8589934592∧r<4294967296∧g*top+r=h∧h*B+u2<(g+1)*(top*B+next)) (fun vg _=>(intOf vg).toNat)
 case atStart=>exact⟨k,cn,rfl,rfl,hf.out,hn.out,hj.out,hq.out⟩
 case round=>
  obtain⟨W,ra,rfl,rfl,io,em,an,ao⟩:=hrel;have Z:=hi9 an;have cx:=hi9 ao;clear an ao;have jj:(W:Int)≤8589934591:=by omega
  have jx:(ra:Int)≤4294967295:=by omega
  by_cases hy:4294967296≤W
  case' pos=>
   have cd:decide ((4294967296:Int)≤W)=true:=by simp;omega
   have i:Hid (h*B+u2<W*(top*B+next)):=gQ bv.out bq.out (by rw[D.out];exact hy);obtain⟨A,E⟩:∃ g',W=g'+1:=⟨W-1,by omega⟩;have ds:IntKind.u64.wrap ((W:Int)-1)=A:=by rw[IntKind.wrap_u64];omega
   have F:Hid (A*top+(ra+top)=h):=by
    show A*top+(ra+top)=h;rw[← Z.out,E,aH,aW];omega
   have J:Hid _:=E;clear E
  case' neg=>
   have cd:decide ((4294967296:Int)≤W)=false:=by simp;omega
   obtain⟨pa,kv,qa,la,lc,li,O,X⟩:=pw W next ra u2 dT ek em ih
   have M:=hi9 O;have N:=hi9 X;by_cases S:qa<pa
   case' pos=>
    have ci:decide (qa<pa)=true:=by simp;exact S
    have i:Hid (h*B+u2<W*(top*B+next)):=k7 Z.out (by rw[D.out,← M.out,← N.out];exact S);obtain⟨A,E⟩:∃ g',W=g'+1:=by
     rcases W with _|g'
     ·rw[bJ] at O;omega
     ·exact⟨g',rfl⟩
    have ds:IntKind.u64.wrap ((W:Int)-1)=A:=by rw[IntKind.wrap_u64];omega
    have F:Hid (A*top+(ra+top)=h):=by
     show A*top+(ra+top)=h;rw[← Z.out,E,aH,aW];omega
    have J:Hid _:=E;clear O X S E M N
   case' neg=>
    have ci:decide (qa<pa)=false:=by simp;omega
  all_goals first
  |(have al:Hid (W*(top*B+next)≤h*B+u2):=iu Z.out (by rw[D.out,← M.out,← N.out];omega)
    have ap:Hid (h*B+u2<(W+1)*(top*B+next)):=cx.out;clear O X S M N;obtain⟨A,rfl⟩:∃ g',g'=W:=⟨_,rfl⟩)
  |(by_cases bl:4294967296≤ra+top
    case neg=>
      have fs:decide ((4294967296:Int)≤(ra:Int)+top)=false:=by simp;omega
      go_wp2_with fail
      go_round
      case rel=>exact⟨A,ra+top,rfl,by go_num,by have:=J.out;omega,by omega,F.out,by rw[← J.out];exact i.out⟩
      case measure=>have:=J.out;simp [intOf];omega
    have fs:decide ((4294967296:Int)≤(ra:Int)+top)=true:=by simp;omega
    obtain⟨k1,k2⟩:=lp (u2:=u2) bv.out dk.out F.out (by rw[D.out];exact bl);have al:Hid (A*(top*B+next)≤h*B+u2):=iu F.out k2;have ap:Hid (h*B+u2<(A+1)*(top*B+next)):=by show h*B+u2<(A+1)*(top*B+next);rw[← J.out];exact i.out
    clear k1 k2 bl i F J)
  all_goals as_aux_lemma=>
   have gm:A*Y≤h*2^32+u2:=by have:=al.out;rw[D.out] at this;rw[o.out];exact this
   have hc:h*2^32+u2<(A+1)*Y:=by have:=ap.out;rw[D.out] at this;rw[o.out];exact this
   have he:A<4294967296:=by have:=jq bv.out bq.out al.out;rw[D.out] at this;exact this
   obtain⟨a1,a2,a3,h2,v1,v2,v3,v4,v5,v6⟩:=qz h u2 A Y gm hc d.out;have dq:h2<2^64:=by have:=d.out;omega
   obtain⟨m,ks,cr,s1,s2,s3,s4,s5,s6,s7⟩:=pT h2 top dq dl.out dT;have cs:Hid (A<4294967296):=he;have hh:Hid (A*Y+h2=h*2^32+u2):=v5;have bz:Hid (h2<top*B+next):=by show h2<top*B+next;rw[D.out];have:=o.out;omega
   have bu:Hid (u0<B):=by show u0<B;rw[D.out];exact gg
   have hg:Hid (m<8589934592):=by show m<8589934592;omega
   have ho:Hid (cr<4294967296):=s6;have hk:Hid (m*top+cr=h2):=s5;have hr:Hid (h2*B+u0<(m+1)*(top*B+next)):=by
    show h2*B+u0<(m+1)*(top*B+next);rw[s4];exact half_start dT bu.out
   clear gm hc he v5 v6 dq s4 s5 s6 s7;go_wp2_with fail;clear s1 s2 s3 v1 v2 v3 v4
   go_loop [18,16] (fun vg vr=>∃ g r:Nat,vg= .int .u64 g∧vr= .int .u64 r∧g<8589934592∧r<4294967296∧g*top+r=h2∧h2*B+u0<(g+1)*(top*B+next)) (fun vg _=>(intOf vg).toNat)
   case atStart=>exact⟨m,cr,rfl,rfl,hg.out,ho.out,hk.out,hr.out⟩
   case round=>
    obtain⟨gb,rb,rfl,rfl,it,ep,an,ao⟩:=hrel;have c:=hi9 an;have cz:=hi9 ao;clear an ao;have jp:(gb:Int)≤8589934591:=by omega
    have kb:(rb:Int)≤4294967295:=by omega
    by_cases hz:4294967296≤gb
    case' pos=>
     have ce:decide ((4294967296:Int)≤gb)=true:=by simp;omega
     have j:Hid (h2*B+u0<gb*(top*B+next)):=gQ bz.out bu.out (by rw[D.out];exact hz);obtain⟨C,E⟩:∃ g',gb=g'+1:=⟨gb-1,by omega⟩;have ea:IntKind.u64.wrap ((gb:Int)-1)=C:=by rw[IntKind.wrap_u64];omega
     have I:Hid (C*top+(rb+top)=h2):=by
      show C*top+(rb+top)=h2;rw[← c.out,E,aH,aW];omega
     have K:Hid _:=E;clear E
    case' neg=>
     have ce:decide ((4294967296:Int)≤gb)=false:=by simp;omega
     obtain⟨pb,kw,qb,lb,lg,lk,O,X⟩:=pw gb next rb u0 dT ek ep gg
     have M:=hi9 O;have N:=hi9 X;by_cases S:qb<pb
     case' pos=>
      have cl:decide (qb<pb)=true:=by simp;exact S
      have j:Hid (h2*B+u0<gb*(top*B+next)):=k7 c.out (by rw[D.out,← M.out,← N.out];exact S);obtain⟨C,E⟩:∃ g',gb=g'+1:=by
       rcases gb with _|g'
       ·rw[bJ] at O;omega
       ·exact⟨g',rfl⟩
      have ea:IntKind.u64.wrap ((gb:Int)-1)=C:=by rw[IntKind.wrap_u64];omega
      have I:Hid (C*top+(rb+top)=h2):=by
       show C*top+(rb+top)=h2;rw[← c.out,E,aH,aW];omega
      have K:Hid _:=E;clear O X S E M N
     case' neg=>
      have cl:decide (qb<pb)=false:=by simp;omega
    all_goals first
    |(have am:Hid (gb*(top*B+next)≤h2*B+u0):=iu c.out (by rw[D.out,← M.out,← N.out];omega)
      have bi:Hid (h2*B+u0<(gb+1)*(top*B+next)):=cz.out;clear O X S M N;obtain⟨C,rfl⟩:∃ g',g'=gb:=⟨_,rfl⟩)
    |(by_cases bn:4294967296≤rb+top
      case neg=>
        have fv:decide ((4294967296:Int)≤(rb:Int)+top)=false:=by simp;omega
        go_wp2_with fail
        go_round
        case rel=>exact⟨C,rb+top,rfl,by go_num,by have:=K.out;omega,by omega,I.out,by rw[← K.out];exact j.out⟩
        case measure=>have:=K.out;simp [intOf];omega
      have fv:decide ((4294967296:Int)≤(rb:Int)+top)=true:=by simp;omega
      obtain⟨k1,k2⟩:=lp (u2:=u0) bz.out dk.out I.out (by rw[D.out];exact bn);have am:Hid (C*(top*B+next)≤h2*B+u0):=iu I.out k2;have bi:Hid (h2*B+u0<(C+1)*(top*B+next)):=by show h2*B+u0<(C+1)*(top*B+next);rw[← K.out];exact j.out
      clear k1 k2 bn j I K)
    all_goals as_aux_lemma=>
     have ha:C*Y≤h2*2^32+u0:=by have:=am.out;rw[D.out] at this;rw[o.out];exact this
     have hd:h2*2^32+u0<(C+1)*Y:=by have:=bi.out;rw[D.out] at this;rw[o.out];exact this
     have ii:C<4294967296:=by have:=jq bz.out bu.out am.out;rw[D.out] at this;exact this
     obtain⟨b1,b2,b3,R,t1,t2,t3,t4,t5,t6⟩:=qz h2 u0 C Y ha hd d.out;obtain⟨e1,e2⟩:=oA ht.out hw.out hp.out hh.out t5 t6;obtain⟨G1,hx⟩:∃ G1:Nat,G1=A*4294967296:=⟨_,rfl⟩;have f1:IntKind.u64.wrap ((A:Int)*4294967296)=G1:=by have:=cs.out;rw[IntKind.wrap_u64];omega
     have f2:IntKind.u64.wrap ((G1:Int)+C)=((A*2^32+C:Nat):Int):=by have:=cs.out;rw[IntKind.wrap_u64];omega
     have f3:(R:Int)/2^s=((R/2^s:Nat):Int):=by rw[FT.ipow,dm]
     rw[e1] at f2;rw[e2] at f3;clear e1 e2 t5 t6 hx ha hd ii;unfold iD;obtain⟨QQ,ca⟩:∃ QQ,QQ=(hi*2^64+lo)/y:=⟨_,rfl⟩;obtain⟨RR,cb⟩:∃ RR,RR=(hi*2^64+lo)%y:=⟨_,rfl⟩;rw[← ca] at f2;rw[← cb] at f3;have hl:=hi9 ca;have hm:=hi9 cb;clear ca cb;go_wp2_with fail
     go_ret2
     exact⟨qA (congrArg (fun n:Nat=>(n:Int)) hl.out) (congrArg (fun n:Nat=>(n:Int)) hm.out),af _⟩
theorem ju {y:Nat} (C:0<y) (A:y<2^64):∃ s:Nat,s≤63∧(s:Int)=64-(Lib.bitLen y:Int)∧2^63≤y*2^s∧y*2^s<2^64:=by
 have hb:=eW (x:=y) dT A;have D:y.log2<64:=(cA dT).2 A;have h1:=cB (n:=y) dT;have h2:=cg (n:=y);obtain⟨s,E⟩:∃ s,s=63-y.log2:=⟨_,rfl⟩;have B:=ae s;refine⟨s,by omega,by omega,?_,?_⟩
 ·have:=aq (2^s) h1;rw[← ah,show y.log2+s=63 from by omega] at this;exact this
 ·have:=aD h2 B;rw[← ah,show y.log2+1+s=64 from by omega] at this;exact this
theorem ns (w:World) (hi lo y:Nat) (B:hi<y) (A:lo<2^64) (D:y<2^64):
  Calls Tryz.prog 160 #[.int .u64 (hi:Int),.int .u64 (lo:Int),.int .u64 (y:Int)] w (iD (hi*2^64+lo) y w):=by
 rcases bK hi with rfl|C
 ·have:=q0k w lo y A dT;rw[show 0*2^64+lo=lo from by omega];exact this
 ·obtain⟨s,E,F,I,J⟩:=ju (by omega:0<y) D;refine q0i w hi lo y s B C A E I J fun w=> ?_;have:=Tryz.bits_LeadingZeros64 (y:Int) w dT dT;rw[Int.toNat_natCast,← F] at this;exact this
/-- A quotient and a rest. -/
def q1W (w:World) (q r:Nat) (e:Ending) (A:World):Prop:=∃ v,e= .returned (.tuple #[v,.int .u64 (r:Int)])∧G w A∧Num A v q
theorem q0n {l cs:List Nat} {k x r y:Nat} (B:k<l.length) (E:cs.length=l.length) (D:l.getD k 0=x) (h:val (l.drop (k+1))=val (cs.drop (k+1))*y+r):
  val (l.drop k)=val ((cs.set k ((r*2^64+x)/y)).drop k)*y+(r*2^64+x)%y:=by
 rw[eg B,D,eg (l:=cs.set k ((r*2^64+x)/y)) (by rw[av];omega),eh dT,bP dT];show x+2^64*val (l.drop (k+1))=((r*2^64+x)/y+2^64*val (cs.drop (k+1)))*y+(r*2^64+x)%y;have C:=bY (r*2^64+x) y;rw[h,aH,aj];rw[aF y] at C;generalize (r*2^64+x)/y*y=A at *;generalize (r*2^64+x)%y=M at *;generalize val (cs.drop (k+1))*y=V at *;omega
set_option maxHeartbeats 4000000 in
set_option maxRecDepth 100000 in
theorem fj (w:World) (va:Value) (a y K:Nat) (hK:K≤1000000) (ha:Num w va a) (J:a<2^(64*K)) (A:0<y) (hy:y<2^64):
  Calls Tryz.prog 104 #[va,.int .u64 (y:Int)] w (q1W w (a/y) (a%y)):=by
 obtain⟨l,d,c,rfl⟩:=ha;have an:=dX c J;clear J;have N:=d.1;obtain⟨pa,ca,rfl,am,R⟩:=ei d;have HA:=hi9 R;clear R d;generalize M:l.length=n at *;have U:Hid (l.length=n):=M;clear M;have ao:=fc n dT;have bi:(y:Int)≤18446744073709551615:=by omega
 go_enter Tryz.func104,Tryz.ntmps104;go_wp2_with fail
 go_loopw [5,6] (fun vr vk wr=>∃ (t r:Nat) (cs:List Nat),t≤n∧vk= .int .i64 ((t:Int)-1)∧vr= .int .u64 r∧r<y∧cs.length=n∧Own wr w.heap.size cs∧val (l.drop t)=val (cs.drop t)*y+r∧G w wr) (fun _ vk _=>(intOf vk+1).toNat)
 case atStart=>exact⟨n,0,List.replicate n 0,ay _,rfl,rfl,A,by simp,eA w n 78,by rw[aL (by rw[U.out];exact ay _),aL eO];simp [val],(af _).alloc _⟩
 case round=>
  obtain⟨t,r,cs,ht,rfl,rfl,m,L,D,E,S⟩:=hrel;have HV:=hi9 E;have B:=hi9 L;have W:=hi9 D;clear E L D;cases t with
  |succ k=>
   obtain⟨b1,o1,rfl,I,C⟩:=HA.out k dT;have Z:=S.cell (p:=⟨b1,o1+k,none⟩) I C;have al:Hid (b1<wr.heap.size):=ad I S.size;clear C I;have hx:=dW N k;have hq:(r*2^64+l.getD k 0)/y<2^64:=by
    rw[aX A];generalize l.getD k 0=x at *;omega
   have O:(r*2^64+l.getD k 0)%y<y:=aU _ A;have HS:Hid _:=q0n (cs:=cs) (l:=l) (y:=y) (r:=r) (k:=k) (by rw[U.out];omega) (by rw[B.out,U.out]) rfl HV.out;have HD:=hi9 (ns wr r (l.getD k 0) y m hx hy);have HQ:=hi9 hq;have HR:=hi9 O;have ap:((l.getD k 0:Nat):Int)≤18446744073709551615:=by omega
   have o:(r:Int)≤18446744073709551615:=by omega
   generalize l.getD k 0=x at *;clear hq O hx;go_wp2_with fail;refine Calls.mono (P:=Tryz.prog) HD.out ?_;rintro e w2 ⟨rfl,g2⟩;have F:Hid (Own w2 w.heap.size cs):=Own.grow W.out g2;have X:=aa S g2;have ho:=Own.cell (w:=w2) (b:=w.heap.size) (l:=cs) (i:=k) F.out (by rw[B.out];omega);have hf:=Own.frozen (w:=w2) (b:=w.heap.size) (l:=cs) (i:=k) F.out (by rw[B.out];omega);generalize (r*2^64+x)/y=q at *;generalize (r*2^64+x)%y=r' at *;generalize cs.getD k 0=z at *;clear HD g2 W Z;go_wp2_with fail
   go_roundw
   case rel=>exact⟨k,r',cs.set k q,by omega,by congr 1,rfl,HR.out,by rw[av];exact B.out,Own.set F.out k q (by rw[B.out];omega) HQ.out,HS.out,X.setCell (ay _) _⟩
   case measure=>simp [intOf]
  |zero=>
   have hT:Hid _:=trim_c wr (.slice (some ⟨w.heap.size,0,none⟩) n n) cs (by have:=Own.sl W.out n (by rw[B.out];exact ay _);rw[B.out] at this;exact this) (by rw[B.out];omega);have s:val l=val cs*y+r:=HV.out;have q2:val cs=val l/y:=by
    rw[s,aF,Nat.mul_add_div A,aN m,aP]
   have q3:r=val l%y:=by
    rw[s,aF,Nat.mul_add_mod,aM m]
   rw[q2] at hT;have Q3:=hi9 q3;clear s q2 q3;have o:(r:Int)≤18446744073709551615:=by omega
   go_wp2_with fail;refine Calls.mono (P:=Tryz.prog) hT.out ?_;rintro e w1 ⟨v1,rfl,Y,j⟩;go_wp2_with fail
   go_ret2
   exact⟨v1,by rw[← Q3.out];rfl,aa S Y,j⟩
def oY (w:World) (b o:Nat) (us:List Nat) (V:Nat) (e:Ending) (A:World):Prop:=
 ∃ cs:List Nat,e= .returned (.int .u64 ((val us/V:Nat):Int))∧cs.length=us.length∧At A b o cs∧GB b o us.length w A∧val cs=val us%V
theorem q0h (w:World) (hi lo y:Nat) (A:hi<y) (B:lo<2^64) (C:y<2^64):
  Calls Tryz.prog 160 #[.int .u64 (hi:Int),.int .u64 (lo:Int),.int .u64 (y:Int)] w fun e D=>e= .returned (.tuple #[.int .u64 (((hi*2^64+lo)/y:Nat):Int),.int .u64 (((hi*2^64+lo)%y:Nat):Int)])∧G w D:=
 ns w hi lo y A B C
theorem Sl.gb {w E:World} {b o n A D cv:Nat} {vl:List Nat} {m:Nat} (h:Sl w (.slice (some ⟨A,D,none⟩) m cv) vl) (g:GB b o n w E) (C:A≠b) (hb:A<w.heap.size):Sl E (.slice (some ⟨A,D,none⟩) m cv) vl:=by
 refine⟨h.1,?_⟩;rcases h.2 with ⟨h1,h2⟩|⟨K,L,c1,e,h1,h2,h3⟩
 ·exact Or.inl ⟨h1,h2⟩
 ·injection e with B F I;injection B with B;injection B with B J;subst B;subst J;subst F;subst I;exact Or.inr ⟨A,D,cv,rfl,h1,ad hb g.size,fun i hi=>(g.other hb C).trans (h3 i hi)⟩
theorem GB.trans {b o n:Nat} {w C A:World} (h:GB b o n w C) (k:GB b o n C A):GB b o n w A:=
 ⟨⟨k.gx.os.trans h.gx.os,k.gx.tape.trans h.gx.tape,k.gx.output.trans h.gx.output,ch h.gx.size k.gx.size,fun i hi B=>(k.gx.block i (ad hi h.gx.size) B).trans (h.gx.block i hi B)⟩,
  fun i hi=>(k.cell i hi).trans (h.cell i hi),fun i=>(k.frozen i).trans (h.frozen i)⟩
theorem At.gr {w A:World} {b o:Nat} {l:List Nat} (h:At w b o l) (g:G w A):At A b o l:=
 ⟨h.ok,ad h.hb g.size,h.row.G h.hb g,fun i hi=>g.frozen h.hb (h.free i hi)⟩
/-- The first words of a long number. -/
theorem q0V {l:List Nat} {n:Nat} (h:l.length=n+2) (A:okw l):val l<(l.getD (n+1) 0*2^64+l.getD n 0+1)*2^(64*n):=by
 have h1:=ew (l:=l) (k:=n) dT;have h2:=eg (l:=l) (k:=n+1) dT;rw[aL (show l.length≤n+1+1 by omega)] at h2;have h3:=et A n dT;rw[h2,fi] at h1;rw[h1,aH,aW,aF (l.getD (n+1) 0),bt (2^64*_),aF (2^(64*n))];omega
theorem q1h {l:List Nat} {n:Nat} (h:l.length=n+1):l.getD n 0*2^(64*n)≤val l:=by
 have h1:=ew (l:=l) (k:=n) dT;rw[aL (show l.length≤n+1 by omega)] at h1;rw[h1,aF];show _≤_+2^(64*n)*(l.getD n 0+2^64*0);rw[bm,aP];exact dG _ _
theorem mr {U V N t P:Nat} (h1:U<(N+1)*P) (h2:t*P≤V) (C:0<t):U<(N/t+1)*V:=by
 have h3:=Nat.lt_div_mul_add C (a:=N);have A:N+1≤(N/t+1)*t:=by rw[aH,aW];omega
 generalize N/t+1=g at *;have B:(N+1)*P≤g*t*P:=aq _ A;have h6:g*(t*P)≤g*V:=au _ h2;rw[aj] at B;omega
theorem oE {us vl:List Nat} {n:Nat} (hu:us.length=n+2) (hv:vl.length=n+1) (A:okw us) (B:0<vl.getD n 0):val us<((us.getD (n+1) 0*2^64+us.getD n 0)/vl.getD n 0+1)*val vl:=
 mr (q0V hu A) (q1h hv) B
/-- What the guesses keep to: the row cs of the number U, so many times V taken away; sp: too often. -/
def Guess (U V T g C:Nat) (A:Bool):Prop:=U<(g+1)*V∧(A=false→C+g*V=U)∧(A=true→C+g*V=U+T∧U<g*V)
theorem Guess.start {U V T g C q:Nat} (h:U<(g+1)*V) (F:C<T) (D:g*V<T) (B:U+T*q=C+g*V):Guess U V T g C (decide (0<q)):=by
 refine⟨h,fun A=> ?_,fun A=> ?_⟩
 ·have:q=0:=by have:=of_decide_eq_false A;omega
  rw[this,bm] at B;omega
 ·have E:=of_decide_eq_true A;have h1:q=1:=by
   by_cases h2:2≤q
   ·have:=au T h2;omega
   ·omega
  rw[h1,bw] at B;omega
theorem Guess.next {U V T g C A q:Nat} (h:Guess U V T (g+1) C true) (L:q≤1) (K:A<T) (F:A+T*q=C+V):Guess U V T g A (!(q==1)):=by
 obtain⟨h1,-,h3⟩:=h;obtain⟨I,J⟩:=h3 rfl;rw[aH,aW] at I;refine⟨J,fun E=> ?_,fun E=> ?_⟩
 ·have D:q=1:=by simpa using E
  rw[D,bw] at F;omega
 ·have B:q=0:=by
   have:¬ q=1:=by simpa using E
   omega
  rw[B,bm] at F;omega
theorem Guess.fin {U V T g C:Nat} (B:0<V) (h:Guess U V T g C false):U/V=g∧C=U%V:=by
 obtain⟨h1,h2,-⟩:=h;have h3:=h2 rfl;rw[aH,aW] at h1;have A:C<V:=by omega
 rw[← h3,dz _ _ B,aN A,dd,aM A];exact⟨by omega,rfl⟩
set_option maxHeartbeats 4000000 in
set_option maxRecDepth 100000 in
theorem q0g (w:World) (b o c Y ov cv:Nat) (us vl:List Nat) (n:Nat) (hn:n≤1000000) (an:us.length=n+2) (d:vl.length=n+1) (hu:At w b o us) (hc:us.length≤c) (hv:Sl w (.slice (some ⟨Y,ov,none⟩) (n+1) cv) vl) (cd:Y≠b) (Z:Y<w.heap.size)
  (ht:0<vl.getD n 0) (hU:val us<2^64*val vl):
  Calls Tryz.prog 127 #[.slice (some ⟨b,o,none⟩) (n+2) c,.slice (some ⟨Y,ov,none⟩) (n+1) cv] w (oY w b o us (val vl)):=by
 have HU:Hid (At w b o us):=hu;have HV:Hid (Sl w (.slice (some ⟨Y,ov,none⟩) (n+1) cv) vl):=hv;have hx:=dW hu.ok (n+1);have ds:=dW hu.ok n;have hy:=dW hv.1 n;have ec:=oE an d hu.ok ht;have c1:=hu.row (n+1) dT;have c2:=hu.row n dT;have c3:w.cell? ⟨Y,ov+n,none⟩=some (.int .u64 (vl.getD n 0:Nat)):=by
  rcases hv.2 with ⟨h1,-⟩|⟨b1,o1,cc,e,-,-,h3⟩
  ·rw[h1] at d;simp at d
  ·injection e with e1 e2 e3;injection e1 with e1;injection e1 with e1 e4;subst e1;subst e4;exact h3 n dT
 have cz:=hi9 ec;have dk:=hi9 hU;have ea:Hid (0<val vl):=by
  show 0<val vl;have:=q1h d;have h2:0<vl.getD n 0*2^(64*n):=bT ht (ae _);omega
 have bq:b<w.heap.size:=hu.hb;have hk:(n:Int)≤1000000:=by omega
 generalize us.getD (n+1) 0=x at *;generalize us.getD n 0=x2 at *;generalize vl.getD n 0=y at *;have ek:(x:Int)≤18446744073709551615:=by omega
 clear hu hv ec hU;by_cases cb:x<y
 ·have dr:decide (x<y)=true:=by simp;exact cb
  have D:(x*2^64+x2)/y<2^64:=by rw[aX ht];omega
  have k:Hid (val us<((x*2^64+x2)/y+1)*val vl):=cz.out;have em:Hid (∀ w,Calls Tryz.prog 160 #[.int .u64 (x:Int),.int .u64 (x2:Int),.int .u64 (y:Int)] w fun e w'=>e= .returned (.tuple #[.int .u64 (((x*2^64+x2)/y:Nat):Int),.int .u64 (((x*2^64+x2)%y:Nat):Int)])∧G w w'):=fun w=>q0h w x x2 y cb ds hy;generalize (x*2^64+x2)/y=g at *;generalize (x*2^64+x2)%y=rr at *;go_enter Tryz.func127,Tryz.ntmps127;go_wp2_with fail;refine ee dV dV ?_;intro W hW;have bu:=fT (w:=W) ⟨b,o+(n+1),none⟩ (.int .u64 (x:Int));have gm:=fT (w:=W) ⟨Y,ov+n,none⟩ (.int .u64 (y:Int));clear hW
  repeat (go_big_quiet_step (fail))
  refine wpQuiet_nil ?_;clear bu gm;intro w2 ao;have ep:=ao.cell bq c1;have fs:=ao.cell bq c2;have fv:=ao.cell Z c3;have hh:=ad bq ao.size;have hj:=ad Z ao.size;clear c1 c2 c3;go_wp2_with fail;refine ee dV dV ?_;intro W hW;have ha:=fT (w:=W) ⟨b,o+(n+1),none⟩ (.int .u64 (x:Int));have hd:=fT (w:=W) ⟨b,o+n,none⟩ (.int .u64 (x2:Int));have he:=fT (w:=W) ⟨Y,ov+n,none⟩ (.int .u64 (y:Int));clear hW
  repeat (go_big_quiet_step ((go_at_call 160;exact gF (em.out _))))
  refine wpQuiet_nil ?_;clear ha hd he;intro w3 j;have i:=aa ao j;have dl:Hid (G w w3):=i;have dq:Y<w3.heap.size:=ad Z i.size;have bi:Hid (At w3 b o us):=HU.out.gr i;have am:Hid (Sl w3 (.slice (some ⟨Y,ov,none⟩) (n+1) cv) vl):=HV.out.G i;clear i ao j ep fs fv hh hj cb dr hx ds hy ek cz
  -- g: the guess (a word); k : val us < (g + 1) * val vl
  have s:Hid _:=jG w3 b o c (.slice (some ⟨Y,ov,none⟩) (n+1) cv) us vl g D bi.out hc am.out (fun b2 o2 n2 c2 e _=>by injection e with e;injection e with e;injection e with e1 e2;omega) dT dT;rw[an] at s;have al:Hid (us.length=n+2):=an;have bn:Hid (vl.length=n+1):=d;have L:Hid (g<2^64):=D;have ap:Hid (Y≠b):=cd;have cx:Hid (n+2≤c):=by show n+2≤c;omega
  have cn:Hid (Y<w.heap.size):=Z;clear an d hc D cd Z dq bq dk;go_wp2_with fail;refine dS s.out ?_;rintro e w4 ⟨cs,q,rfl,A,B,C,X⟩;rw[al.out] at A C X;have S:val cs<2^(64*(n+2)):=by have:=eo B.ok;rwa[A] at this
  have bz:g*val vl<2^(64*(n+2)):=by
   have h1:=eo am.out.1;rw[bn.out] at h1;have h2:g*val vl<2^64*2^(64*(n+1)):=dj L.out h1;rw[← ah,show 64+64*(n+1)=64*(n+2) from by omega] at h2;exact h2
  have M:Hid (Guess (val us) (val vl) (2^(64*(n+2))) g (val cs) (decide (0<q))):=Guess.start k.out S bz X;have K:Hid (At w4 b o cs):=B;have I:Hid (GB b o (n+2) w w4):=GB.trans (GB.of dl.out HU.out.hb) C;have J:Hid (cs.length=n+2):=A;generalize decide (0<q)=sp at *;clear S bz B C X A s bi am k;go_wp2_with fail
  go_loopw [6,7] (fun vg vs wr=>∃ (g:Nat) (sp:Bool) (cs:List Nat),vg= .int .u64 g∧vs= .bool sp∧g<2^64∧cs.length=n+2∧At wr b o cs∧GB b o (n+2) w wr∧Guess (val us) (val vl) (2^(64*(n+2))) g (val cs) sp) (fun vg _ _=>(intOf vg).toNat)
  case atStart=>exact⟨g,sp,cs,rfl,rfl,L.out,J.out,K.out,I.out,M.out⟩
  case round=>
   clear K I J M L;obtain⟨g,sp,cs,rfl,rfl,D,A,B,C,U⟩:=hrel;have K:Hid (At wr b o cs):=B;have I:Hid (GB b o (n+2) w wr):=C;have J:Hid (cs.length=n+2):=A;have bl:=hi9 (Sl.gb HV.out C ap.out cn.out);have ga:(g:Int)≤18446744073709551615:=by omega
   cases sp
   ·obtain⟨f1,f2⟩:=Guess.fin ea.out U;have F1:=hi9 f1;have F2:=hi9 f2;clear U B C A f1 f2;go_wp2_with fail;go_ret;exact⟨cs,er (by rw[F1.out]),by rw[J.out,al.out],K.out,by rw[al.out];exact I.out,F2.out⟩
   ·obtain⟨g',rfl⟩:∃ g',g=g'+1:=by
     rcases g with _|g'
     ·have:=(U.2.2 rfl).2;rw[bJ] at this;omega
     ·exact⟨g',rfl⟩
    have M:Hid (Guess (val us) (val vl) (2^(64*(n+2))) (g'+1) (val cs) true):=U;have m:Hid _:=mq wr b o c (.slice (some ⟨Y,ov,none⟩) (n+1) cv) cs vl B (by have:=cx.out;omega) bl.out (fun b2 o2 n2 c2 e _=>by injection e with e;injection e with e;injection e with e1 e2;have:=ap.out;omega) (by have:=bn.out;omega) dT;rw[A] at m;clear U B C A;have gg:IntKind.u64.wrap (((g'+1:Nat):Int)-1)=g':=by rw[IntKind.wrap_u64];omega
    have eb:(g':Int)+1≤18446744073709551615:=by omega
    go_wp2_with fail;refine dS m.out ?_;rintro e w5 ⟨N,q,rfl,bu,F,O,R,E⟩;rw[J.out] at F R E;have S:val N<2^(64*(n+2)):=by have:=eo O.ok;rwa[F] at this
    have HN:Hid (Guess (val us) (val vl) (2^(64*(n+2))) g' (val N) (!(q==1))):=Guess.next M.out bu S E;have ci:Hid (At w5 b o N):=O;have cl:Hid (GB b o (n+2) w w5):=GB.trans I.out R;have cr:Hid (N.length=n+2):=F;generalize (q==1)=qb at *;clear S O R E F M K I J m bl;go_wp2_with fail
    go_roundw
    case rel=>exact⟨g', !qb,N,by go_num,rfl,by omega,cr.out,ci.out,cl.out,HN.out⟩
    case measure=>simp [intOf]
 ·have dr:decide (x<y)=false:=by simp;omega
  have D:(18446744073709551615:Nat)<2^64:=by omega
  obtain⟨g,ca⟩:∃ g:Nat,g=18446744073709551615:=⟨_,rfl⟩;go_enter Tryz.func127,Tryz.ntmps127;go_wp2_with fail;refine ee dV dV ?_;intro W hW;have hf:=fT (w:=W) ⟨b,o+(n+1),none⟩ (.int .u64 (x:Int));have hg:=fT (w:=W) ⟨Y,ov+n,none⟩ (.int .u64 (y:Int));clear hW
  repeat (go_big_quiet_step (fail))
  refine wpQuiet_nil ?_;clear hf hg;intro w3 j;have dl:Hid (G w w3):=j;have dq:Y<w3.heap.size:=ad Z j.size;have bi:Hid (At w3 b o us):=HU.out.gr j;have am:Hid (Sl w3 (.slice (some ⟨Y,ov,none⟩) (n+1) cv) vl):=HV.out.G j;have k:Hid (val us<(g+1)*val vl):=by show val us<(g+1)*val vl;rw[ca];exact dk.out
  have ce:(18446744073709551615:Int)=(g:Int):=by rw[ca];rfl
  rw[← ca] at D;clear j c1 c2 c3 cb dr hx ds hy ek cz;rw[ce];clear ce ca
  -- g: the guess (a word); k : val us < (g + 1) * val vl
  have s:Hid _:=jG w3 b o c (.slice (some ⟨Y,ov,none⟩) (n+1) cv) us vl g D bi.out hc am.out (fun b2 o2 n2 c2 e _=>by injection e with e;injection e with e;injection e with e1 e2;omega) dT dT;rw[an] at s;have al:Hid (us.length=n+2):=an;have bn:Hid (vl.length=n+1):=d;have L:Hid (g<2^64):=D;have ap:Hid (Y≠b):=cd;have cx:Hid (n+2≤c):=by show n+2≤c;omega
  have cn:Hid (Y<w.heap.size):=Z;clear an d hc D cd Z dq bq dk;go_wp2_with fail;refine dS s.out ?_;rintro e w4 ⟨cs,q,rfl,A,B,C,X⟩;rw[al.out] at A C X;have S:val cs<2^(64*(n+2)):=by have:=eo B.ok;rwa[A] at this
  have bz:g*val vl<2^(64*(n+2)):=by
   have h1:=eo am.out.1;rw[bn.out] at h1;have h2:g*val vl<2^64*2^(64*(n+1)):=dj L.out h1;rw[← ah,show 64+64*(n+1)=64*(n+2) from by omega] at h2;exact h2
  have M:Hid (Guess (val us) (val vl) (2^(64*(n+2))) g (val cs) (decide (0<q))):=Guess.start k.out S bz X;have K:Hid (At w4 b o cs):=B;have I:Hid (GB b o (n+2) w w4):=GB.trans (GB.of dl.out HU.out.hb) C;have J:Hid (cs.length=n+2):=A;generalize decide (0<q)=sp at *;clear S bz B C X A s bi am k;go_wp2_with fail
  go_loopw [6,7] (fun vg vs wr=>∃ (g:Nat) (sp:Bool) (cs:List Nat),vg= .int .u64 g∧vs= .bool sp∧g<2^64∧cs.length=n+2∧At wr b o cs∧GB b o (n+2) w wr∧Guess (val us) (val vl) (2^(64*(n+2))) g (val cs) sp) (fun vg _ _=>(intOf vg).toNat)
  case atStart=>exact⟨g,sp,cs,rfl,rfl,L.out,J.out,K.out,I.out,M.out⟩
  case round=>
   clear K I J M L;obtain⟨g,sp,cs,rfl,rfl,D,A,B,C,U⟩:=hrel;have K:Hid (At wr b o cs):=B;have I:Hid (GB b o (n+2) w wr):=C;have J:Hid (cs.length=n+2):=A;have bl:=hi9 (Sl.gb HV.out C ap.out cn.out);have ga:(g:Int)≤18446744073709551615:=by omega
   cases sp
   ·obtain⟨f1,f2⟩:=Guess.fin ea.out U;have F1:=hi9 f1;have F2:=hi9 f2;clear U B C A f1 f2;go_wp2_with fail;go_ret;exact⟨cs,er (by rw[F1.out]),by rw[J.out,al.out],K.out,by rw[al.out];exact I.out,F2.out⟩
   ·obtain⟨g',rfl⟩:∃ g',g=g'+1:=by
     rcases g with _|g'
     ·have:=(U.2.2 rfl).2;rw[bJ] at this;omega
     ·exact⟨g',rfl⟩
    have M:Hid (Guess (val us) (val vl) (2^(64*(n+2))) (g'+1) (val cs) true):=U;have m:Hid _:=mq wr b o c (.slice (some ⟨Y,ov,none⟩) (n+1) cv) cs vl B (by have:=cx.out;omega) bl.out (fun b2 o2 n2 c2 e _=>by injection e with e;injection e with e;injection e with e1 e2;have:=ap.out;omega) (by have:=bn.out;omega) dT;rw[A] at m;clear U B C A;have gg:IntKind.u64.wrap (((g'+1:Nat):Int)-1)=g':=by rw[IntKind.wrap_u64];omega
    have eb:(g':Int)+1≤18446744073709551615:=by omega
    go_wp2_with fail;refine dS m.out ?_;rintro e w5 ⟨N,q,rfl,bu,F,O,R,E⟩;rw[J.out] at F R E;have S:val N<2^(64*(n+2)):=by have:=eo O.ok;rwa[F] at this
    have HN:Hid (Guess (val us) (val vl) (2^(64*(n+2))) g' (val N) (!(q==1))):=Guess.next M.out bu S E;have ci:Hid (At w5 b o N):=O;have cl:Hid (GB b o (n+2) w w5):=GB.trans I.out R;have cr:Hid (N.length=n+2):=F;generalize (q==1)=qb at *;clear S O R E F M K I J m bl;go_wp2_with fail
    go_roundw
    case rel=>exact⟨g', !qb,N,by go_num,rfl,by omega,cr.out,ci.out,cl.out,HN.out⟩
    case measure=>simp [intOf]
/-- What holds ahead of digit t - 1. -/
def DI (us B:List Nat) (t N M V A:Nat):Prop:=us.length=N∧B.length=M∧val us<2^(64*t)*V∧val us+val (B.drop t)*(2^(64*t)*V)=A
theorem DI.start {us:List Nat} {N M V A:Nat} (C:us.length=N) (hv:val us=A) (B:A<2^(64*M)*V):DI us (List.replicate M 0) M N M V A:=by
 refine⟨C,by simp,by rw[hv];exact B,?_⟩;rw[aL eO];simp [val,hv]
theorem q0f {low S V P q r Z A X:Nat} (F:X=low+P*S) (I:q*V+r=S) (E:X+Z*(2^64*P*V)=A):low+P*r+(q+2^64*Z)*(P*V)=A:=by
 rw[← E,F,← I,ax,aH];have C:P*(q*V)=q*(P*V):=by ac_rfl
 have D:2^64*Z*(P*V)=Z*(2^64*P*V):=by
  generalize (2:Nat)^64=B
  ac_rfl
 rw[C,D];omega
theorem DI.step {us F cs:List Nat} {j n N M V A:Nat} (h:DI us F (j+1) N M V A) (E:okw us) (o:j<M) (d:j+(n+1)≤N) (Z:V<2^(64*n)) (I:0<V):
  val ((us.drop j).take (n+1))<2^64*V∧
  (cs.length=n+1→val cs=val ((us.drop j).take (n+1))%V→DI (us.take j++(cs++us.drop (j+(n+1)))) (F.set j (val ((us.drop j).take (n+1))/V)) j N M V A):=by
 obtain⟨h1,h2,h3,U⟩:=h;have O:=iS us j (n+1) dT;have L:=et E j dT;have k:=ae (64*j);have D:2^(64*(j+1))=2^64*2^(64*j):=by rw[← ah];congr 1;omega
 have R:val (us.drop (j+(n+1)))=0:=by
  rw[fG E];refine aN ?_;have W:2^(64*(j+1))*V≤2^(64*(j+1))*2^(64*n):=au _ (cy Z);rw[← ah,show 64*(j+1)+64*n=64*(j+(n+1)) from by omega] at W;omega
 rw[R,bm,aP] at O;generalize m:val ((us.drop j).take (n+1))=S at *;generalize Y:val (us.take j)=low at *;constructor
 ·refine cH (a:=2^(64*j)) ?_;rw[show 2^(64*j)*(2^64*V)=2^(64*(j+1))*V from by rw[D,bX,aj]];omega
 ·intro C J;have c:=aU S I;have K:=bY S V;have B:=q03 (l:=us) (cs:=cs) (i:=j) (n:=n+1) C dT;simp only[R,bm,aP,J,Y] at B;refine⟨?_,by rw[av,h2],?_,?_⟩
  ·rw[ag,ag,aR,bO,C];omega
  ·rw[B];have h6:2^(64*j)*(S%V)+2^(64*j)≤2^(64*j)*V:=by
    have:=au (2^(64*j)) c;rw[Nat.mul_succ] at this;exact this
   omega
  ·rw[B,eg (l:=F.set j (S/V)) (by rw[av];omega),eh dT,bP dT];show _+(S/V+2^64*val (F.drop (j+1)))*_=A;rw[aF V] at K;refine q0f (X:=val us) O K ?_;rw[← D];exact U
theorem DI.fin {us B:List Nat} {N M a b p:Nat} (h:DI us B 0 N M (b*p) (a*p)) (D:0<p) (hb:0<b):val B=a/b∧val us=(a%b)*p:=by
 obtain⟨-,-,h3,A⟩:=h;simp only[bm,bW,aW,List.drop_zero] at h3 A;have C:a*p/(b*p)=val B:=by
  rw[← A,dz _ _ (bT hb D),aN h3,az]
 have h6:a*p%(b*p)=val us:=by
  rw[← A,dd,aM h3]
 rw[cf _ _ D] at C;rw[cG] at h6;exact⟨C.symm,h6.symm⟩
/-- The shift that brings a number's highest bit to the top of its last word. -/
theorem iG {l:List Nat} {n:Nat} (h:canon l) (I:l.length=n+1):∃ s:Nat,s≤63∧(s:Int)=64-(Lib.bitLen (l.getD n 0):Int)∧val l*2^s<2^(64*(n+1))∧2^(64*n)≤val l∧2^(64*n)≤val l*2^s:=by
 have M:=gi h I;have J:=dW h.1 n;obtain⟨s,K,L,O,B⟩:=ju (by omega:0<l.getD n 0) J;have h1:=ew (l:=l) (k:=n) dT;rw[aL (show l.length≤n+1 by omega)] at h1;have C:val l=val (l.take n)+2^(64*n)*l.getD n 0:=h1;have h2:=et h.1 n dT;have A:=ae s;generalize l.getD n 0=x at *;have h3:val l<2^(64*n)*(x+1):=by rw[ax,bw];omega
 have F:2^(64*n)*1≤2^(64*n)*x:=au _ dT;have D:(x+1)*2^s≤2^64:=by
  have e:(2:Nat)^64=2^(64-s)*2^s:=by rw[← ah];congr 1;omega
  rw[e] at B ⊢;exact aq _ (bN B)
 refine⟨s,K,L,?_,by omega,?_⟩
 ·have E:val l*2^s<2^(64*n)*(x+1)*2^s:=aD h3 A;have h6:2^(64*n)*((x+1)*2^s)≤2^(64*n)*2^64:=au _ D;rw[← ah,show 64*n+64=64*(n+1) from by omega] at h6;rw[aj] at E;omega
 ·have N:val l*1≤val l*2^s:=au _ A;omega
end Go.Proofs.YtfnkkkcojnffdaaGreatDoor.EN
