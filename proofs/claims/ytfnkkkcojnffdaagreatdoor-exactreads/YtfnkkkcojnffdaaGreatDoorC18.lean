/- What is proved here: contracts of package exact: shrink, over this seat's translation.
What is proved here: contracts of package exact: gather, over this seat's translation.
What is proved here: contracts of package exact: parts of rows of our own, times, over this seat's translation.
What is proved here: contracts of package exact: times, over this seat's translation. -/
import Derived.Test.YtfnkkkcojnffdaaGreatDoorC1
import Derived.Test.YtfnkkkcojnffdaaGreatDoorC3
import Derived.Test.YtfnkkkcojnffdaaGreatDoorC11
import Derived.Test.YtfnkkkcojnffdaaGreatDoorC16
namespace Go.Proofs.YtfnkkkcojnffdaaGreatDoor.EN
open Go.ChangeShapes Go.WideShapes Go.ChangeAt Go.RowKit
theorem qd (y w c:Nat) (C:y<2^64) (B:w<2^64) (A:c≤2^64-2):
  ∃ hi lo a c1,y*w/2^64=hi∧y*w%2^64=lo∧(lo+c+0)%2^64=a∧(lo+c+0)/2^64=c1∧hi<2^64∧lo<2^64∧a<2^64∧c1≤1∧c1+hi≤2^64-2∧y*w+c=a+2^64*(c1+hi):=by
 have h1:y*w≤(2^64-1)*(2^64-1):=cj dT dT;generalize y*w=p at *;refine⟨_,_,_,_,rfl,rfl,rfl,rfl,?_,?_,?_,?_,?_,?_⟩<;>omega
theorem lW (x a d:Nat) (C:x<2^64) (A:a<2^64) (B:d≤1):
  ∃ r d',(x+2^64-a-d)%2^64=r∧(if x<a+d then 1 else 0:Nat)=d'∧r<2^64∧d'≤1∧x+2^64*d'=r+d+a:=by
 by_cases h:x<a+d
 ·exact⟨_,1,rfl,if_pos h,by omega,by omega,by omega⟩
 ·exact⟨_,0,rfl,if_neg h,by omega,by omega,by omega⟩
/-- One step of a taking away in place. -/
theorem lT {l cs m:List Nat} {k c d c' d' n r w:Nat} (C:k<n) (A:cs.length=n)
  (h:val (l.take k)+2^(64*k)*(c+d)=val (cs.take k)+w*val (m.take k)) (B:l.getD k 0+2^64*(c'+d')=r+d+(m.getD k 0*w+c)):
  val (l.take (k+1))+2^(64*(k+1))*(c'+d')=val ((cs.set k r).take (k+1))+w*val (m.take (k+1)):=by
 rw[en dT,ed l,ed m];generalize l.getD k 0=x at *;generalize m.getD k 0=y at *;rw[show 64*(k+1)=64*k+64 from by omega,ah,aj,bR,← ax,B];have e:w*(2^(64*k)*y)=2^(64*k)*(y*w):=by rw[aF y w,bX]
 rw[ax w,e];simp only[ax] at h ⊢;omega
theorem jY {l cs:List Nat} {k n r:Nat} (J:k<n) (F:cs.length=n) (I:l.length=n) (A:cs.drop k=l.drop k):cs.getD k 0=l.getD k 0∧(cs.set k r).drop (k+1)=l.drop (k+1):=by
 have B:=eg (l:=cs) (k:=k) dT;have C:=eg (l:=l) (k:=k) dT;rw[B,C] at A;injection A with D E;refine⟨D,?_⟩;rw[bP dT,E]
/-- What shrink hands back, and leaves in memory: s is what is to be taken away. -/
def nY (w:World) (b o:Nat) (l:List Nat) (s:Nat) (e:Ending) (A:World):Prop:=
 ∃ (cs:List Nat) (q:Nat),e= .returned (.bool (decide (0<q)))∧cs.length=l.length∧At A b o cs∧GB b o l.length w A∧val l+2^(64*l.length)*q=val cs+s
theorem jG (w:World) (b o c:Nat) (vb:Value) (l m:List Nat) (f:Nat) (hf:f<2^64) (hz:At w b o l) (hc:l.length≤c) (hb:Sl w vb m) (M:∀ b2 o2 n2 c2,vb= .slice (some ⟨b2,o2,none⟩) n2 c2→m≠[]→b2≠b) (bv:m.length≤l.length) (ci:l.length≤1048000):
  Calls Tryz.prog 171 #[.slice (some ⟨b,o,none⟩) l.length c,vb,.int .u64 (f:Int)] w (nY w b o l (f*val m)):=by
 have an:=hz.ok;have ao:=hb.1;obtain⟨pb,cb,rfl,cc,ap⟩:=ei hb;have HB:=hi9 ap;have HZ:=hi9 hz;have HD:=hi9 M;have HF:=hi9 hf;clear ap hb hz M hf;generalize hn:l.length=n at *;generalize hj:m.length=j at *;have HN:=hi9 hn;have HJ:=hi9 hj;clear hn hj;have KM:Hid _:=fun x y R S w=>Tryz.bits_Mul64 x y R S w;go_enter Tryz.func171,Tryz.ntmps171;go_wp2_with fail
 go_loopw [7,8,15] (fun vc vd vk wr=>∃ (k g d:Nat) (cs:List Nat),k≤n∧vk= .int .i64 k∧vc= .int .u64 g∧vd= .int .u64 d∧g≤2^64-2∧d≤1∧cs.length=n∧cs.drop k=l.drop k∧At wr b o cs∧GB b o n w wr∧val (l.take k)+2^(64*k)*(g+d)=val (cs.take k)+f*val (m.take k)) (fun _ _ vk _=>n-(intOf vk).toNat)
 case atStart=>exact⟨0,0,0,l,bo _,rfl,rfl,rfl,by omega,by omega,HN.out,rfl,HZ.out,GB.refl _ _ _ _ HZ.out.hb,by simp [val]⟩
 case round=>
  obtain⟨k,g,d,cs,hk,rfl,rfl,rfl,hg,M,D,O,A,hG,B⟩:=hrel;have U:=hi9 D;have HO:=hi9 A;have HG:=hi9 hG;have bl:=hi9 hg;have ce:(g:Int)≤18446744073709551614:=by omega
  have cd:(d:Int)≤1:=by omega
  by_cases F:k<n
  ·have R:=dW an k;have S:=dW ao k;have q1:=fun r=>jY (r:=r) F D HN.out O;have Q1:Hid _:=fun r=>(q1 r).2;have q0:=(q1 0).1;have E:Hid _:=fun (c' d' r:Nat)=>lT (c':=c') (d':=d') (r:=r) F D B;have L:=A.row k dT;have bq:=A.free k dT;rw[q0] at L;clear q1 q0 B O A D;by_cases bu:k<j
   ·obtain⟨b2,o2,rfl,al,J⟩:=HB.out k bu;have am:=HD.out b2 o2 _ _ rfl (fun e=>by have h:=HJ.out;rw[e,cW] at h;omega);have ca:=(HG.out.other al am).trans J;clear J al am hG;generalize l.getD k 0=x at *;generalize m.getD k 0=y at *;obtain⟨hi,lo,a,c1,e1,e2,e3,e4,h1,h2,h3,h4,h5,h6⟩:=qd y f g S HF.out bl.out;obtain⟨r,d',Y,Z,i,s,h9⟩:=lW x a d R h3 M;have I:=gZ lo g 0 dT;have C:=nQ x a d M;have X:=fun w=>KM.out y f S HF.out w;rw[show (18446744073709551616:Nat)=2^64 from rfl] at I C;rw[show ((0:Nat):Int)=0 from rfl,e3,e4] at I;rw[Y,Z] at C;have q3:=E.out (c1+hi) d' r (by rw[h6];omega);have Q2:=hi9 (Q1.out r);have bn:Hid (∀ w:World,Calls Tryz.prog 177 #[.int .u64 y,.int .u64 f] w fun e w'=>e= .returned (.tuple #[.int .u64 (hi:Int),.int .u64 (lo:Int)])∧w'=w):=fun w=>(X w).mono (by rintro e w' ⟨rfl,rfl⟩;exact⟨by rw[← e1,← e2],rfl⟩);clear E Q1 X e1 e2 e3 e4 Y Z h6 h9 R S;have E:=hi9 q3;have HR:=hi9 i;have N:=s;have bz:(c1:Int)+hi≤18446744073709551614:=by omega
    clear q3 i h1 h2 h3 h4 s hg;go_wp2_with fail;refine Calls.mono (P:=Tryz.prog) (bn.out wr) ?_;rintro e w1 ⟨rfl,rfl⟩;go_wp2_with fail
    go_roundw
    case rel=>exact⟨k+1,c1+hi,d',cs.set k r,by omega,by go_num,by go_num,rfl,by omega,N,by rw[av];exact U.out,Q2.out,At.set HO.out k r (by rw[U.out];omega) HR.out,GB.set HG.out F _,E.out⟩
    case measure=>simp only[intOf];omega
   ·have bi:m.getD k 0=0:=by rw[ab,bj (by rw[HJ.out];omega)];rfl
    rw[bi] at E;clear S bi hG;generalize l.getD k 0=x at *;obtain⟨r,d',Y,Z,i,s,h9⟩:=lW x g d R dT M;have C:=nQ x g d M;rw[show (18446744073709551616:Nat)=2^64 from rfl,Y,Z] at C;have q3:=E.out 0 d' r dT;have Q2:=hi9 (Q1.out r);clear E Q1 Y Z h9 R;have E:=hi9 q3;have HR:=hi9 i;have N:=s;clear q3 i s hg;go_wp2_with fail
    go_roundw
    case rel=>exact⟨k+1,0,d',cs.set k r,by omega,by go_num,rfl,rfl,by omega,N,by rw[av];exact U.out,Q2.out,At.set HO.out k r (by rw[U.out];omega) HR.out,GB.set HG.out F _,E.out⟩
    case measure=>simp only[intOf];omega
  ·obtain rfl:k=n:=by omega
   have hv:val l+2^(64*k)*(g+d)=val cs+f*val m:=by
    rw[aw (by rw[HN.out];omega),aw (by rw[D];omega),aw (by rw[HJ.out];omega)] at B;exact B
   have HV:=hi9 hv;have W:=HN.out;have K:Hid (l.length=k):=W;have ht:decide (0<(g:Int)+d)=decide (0<g+d):=by congr 1;apply propext;omega
   have HT:=hi9 ht;clear hv B O A hG D W hg ht;go_wp2_with fail;go_ret;refine⟨cs,g+d,?_,by rw[U.out,K.out],HO.out,by rw[K.out];exact HG.out,by rw[K.out];exact HV.out⟩;show Ending.returned (Value.bool (decide (0<(g:Int)+d)))=_;rw[HT.out]
theorem lh (y w g x:Nat) (E:y<2^64) (C:w<2^64) (B:g<2^64) (D:x<2^64):
  ∃ hi lo a c1 r A,y*w/2^64=hi∧y*w%2^64=lo∧(lo+g+0)%2^64=a∧(lo+g+0)/2^64=c1∧(x+a+0)%2^64=r∧(x+a+0)/2^64=A∧
   hi+c1<2^64∧r<2^64∧hi+c1+A<2^64∧y*w+g+x=r+2^64*(hi+c1+A):=by
 have h1:y*w≤(2^64-1)*(2^64-1):=cj dT dT;generalize y*w=p at *;refine⟨_,_,_,_,_,_,rfl,rfl,rfl,rfl,rfl,rfl,?_,?_,?_,?_⟩<;>omega
/-- One step of a gathering in place. -/
theorem lf {l cs m:List Nat} {k g g' n r w:Nat} (C:k<n) (A:cs.length=n)
  (h:val (cs.take k)+2^(64*k)*g=val (l.take k)+w*val (m.take k)) (B:m.getD k 0*w+g+l.getD k 0=r+2^64*g'):
  val ((cs.set k r).take (k+1))+2^(64*(k+1))*g'=val (l.take (k+1))+w*val (m.take (k+1)):=by
 rw[en dT,ed l,ed m];generalize l.getD k 0=x at *;generalize m.getD k 0=y at *;rw[show 64*(k+1)=64*k+64 from by omega,ah,aj,bR,← ax,← B];have e:w*(2^(64*k)*y)=2^(64*k)*(y*w):=by rw[aF y w,bX]
 rw[ax w,e];simp only[ax] at h ⊢;omega
/-- What gather hands back, and leaves in memory: s is the sum of what was there and what is added. -/
def nV (w:World) (b o:Nat) (l:List Nat) (s:Nat) (e:Ending) (A:World):Prop:=
 ∃ (cs:List Nat) (q:Nat),e= .returned (.int .u64 (q:Int))∧q<2^64∧cs.length=l.length∧At A b o cs∧GB b o l.length w A∧val cs+2^(64*l.length)*q=s
theorem pQ (w:World) (b o c:Nat) (vb:Value) (l m:List Nat) (f:Nat) (hf:f<2^64) (hz:At w b o l) (hc:l.length≤c) (hb:Sl w vb m) (hd:∀ s o2 n2 S,vb= .slice (some ⟨s,o2,none⟩) n2 S→m≠[]→s≠b) (E:m.length=l.length) (bl:l.length≤1048000):
  Calls Tryz.prog 121 #[.slice (some ⟨b,o,none⟩) l.length c,vb,.int .u64 (f:Int)] w (nV w b o l (val l+f*val m)):=by
 have X:=hz.ok;have Y:=hb.1;obtain⟨pb,cb,rfl,am,Z⟩:=ei hb;have HB:=hi9 Z;have HZ:=hi9 hz;have HD:=hi9 hd;have HF:=hi9 hf;clear Z hb hz hd hf;generalize hn:l.length=n at *;have i:=hi9 hn;have HJ:=hi9 E;rw[E] at HB HD am ⊢;clear hn E;have KM:Hid _:=fun x y hx d w=>Tryz.bits_Mul64 x y hx d w;go_enter Tryz.func121,Tryz.ntmps121;go_wp2_with fail
 go_loopw [7,15] (fun vc vk wr=>∃ (k g:Nat) (cs:List Nat),k≤n∧vk= .int .i64 k∧vc= .int .u64 g∧g<2^64∧cs.length=n∧cs.drop k=l.drop k∧At wr b o cs∧GB b o n w wr∧val (cs.take k)+2^(64*k)*g=val (l.take k)+f*val (m.take k)) (fun _ vk _=>n-(intOf vk).toNat)
 case atStart=>exact⟨0,0,l,bo _,rfl,rfl,by omega,i.out,rfl,HZ.out,GB.refl _ _ _ _ HZ.out.hb,by simp [val]⟩
 case round=>
  obtain⟨k,g,cs,hk,rfl,rfl,hg,D,M,A,hG,B⟩:=hrel;have HC:=hi9 D;have HO:=hi9 A;have HG:=hi9 hG;have N:=hi9 hg;by_cases F:k<n
  ·have hx:=dW X k;have d:=dW Y k;have q1:=fun r=>jY (r:=r) F D i.out M;have Q1:Hid _:=fun r=>(q1 r).2;have q0:=(q1 0).1;have j:Hid _:=fun (g' r:Nat)=>lf (g':=g') (r:=r) F D B;have L:=A.row k dT;have an:=A.free k dT;rw[q0] at L;clear q1 q0 B M A D;obtain⟨s,o2,rfl,U,J⟩:=HB.out k F;have W:=HD.out s o2 _ _ rfl (fun e=>by have h:=HJ.out;rw[e,cW] at h;omega);have bi:=(HG.out.other U W).trans J;clear J U W hG;generalize l.getD k 0=x at *;generalize m.getD k 0=y at *;obtain⟨hi,lo,a,c1,r,S,e1,e2,e3,e4,e5,e6,h1,h2,h3,h4⟩:=lh y f g x d HF.out N.out hx;have I:=gZ lo g 0 dT;have C:=gZ x a 0 dT;have R:=fun w=>KM.out y f d HF.out w;rw[show (18446744073709551616:Nat)=2^64 from rfl] at I C;rw[show ((0:Nat):Int)=0 from rfl,e3,e4] at I;rw[show ((0:Nat):Int)=0 from rfl,e5,e6] at C;have q3:=j.out (hi+c1+S) r h4;have Q2:=hi9 (Q1.out r);have al:Hid (∀ w:World,Calls Tryz.prog 177 #[.int .u64 y,.int .u64 f] w fun e w'=>e= .returned (.tuple #[.int .u64 (hi:Int),.int .u64 (lo:Int)])∧w'=w):=fun w=>(R w).mono (by rintro e w' ⟨rfl,rfl⟩;exact⟨by rw[← e1,← e2],rfl⟩);clear j Q1 R e1 e2 e3 e4 e5 e6 h4 hx d;have j:=hi9 q3;have HR:=hi9 h2;have H3:=hi9 h3;have ao:(hi:Int)+c1≤18446744073709551615:=by omega
   have ap:(hi:Int)+c1+S≤18446744073709551615:=by omega
   clear q3 h1 h2 h3 hg;go_wp2_with fail;refine Calls.mono (P:=Tryz.prog) (al.out wr) ?_;rintro e w1 ⟨rfl,rfl⟩;go_wp2_with fail
   go_roundw
   case rel=>exact⟨k+1,hi+c1+S,cs.set k r,by omega,by go_num,by go_num,H3.out,by rw[av];exact HC.out,Q2.out,At.set HO.out k r (by rw[HC.out];omega) HR.out,GB.set HG.out F _,j.out⟩
   case measure=>simp only[intOf];omega
  ·obtain rfl:k=n:=by omega
   have hv:val cs+2^(64*k)*g=val l+f*val m:=by
    rw[aw dT,aw (by rw[i.out];omega),aw (by rw[HJ.out];omega)] at B;exact B
   have HV:=hi9 hv;have O:=i.out;have K:Hid (l.length=k):=O;clear hv B M A hG D O hg;go_wp2_with fail;go_ret;exact⟨cs,g,rfl,N.out,by rw[HC.out,K.out],HO.out,by rw[K.out];exact HG.out,by rw[K.out];exact HV.out⟩
theorem getD_drop (l:List Nat) (i j:Nat):(l.drop i).getD j 0=l.getD (i+j) 0:=by
 rw[ab,ab,List.getElem?_drop]
theorem getD_take {l:List Nat} {n j:Nat} (h:j<n):(l.take n).getD j 0=l.getD j 0:=by
 rw[ab,ab,dP h]
theorem jZ {l m:List Nat} {j:Nat} (h:j<l.length):(l++m).getD j 0=l.getD j 0:=by
 rw[ab,ab,List.getElem?_append_left h]
theorem jo {l m:List Nat} {j:Nat} (h:l.length≤j):(l++m).getD j 0=m.getD (j-l.length) 0:=by
 rw[ab,ab,aZ h]
/-- A part of a row of our own. -/
theorem At.sub {w:World} {b o:Nat} {l:List Nat} (h:At w b o l) {i n:Nat} (C:i+n≤l.length):At w b (o+i) ((l.drop i).take n):=by
 have B:((l.drop i).take n).length=n:=by rw[aR,bO];omega
 refine⟨fq (gz h.ok i) n,h.hb,fun j A=> ?_,fun j A=> ?_⟩
 ·rw[B] at A;rw[getD_take A,getD_drop,bR];exact h.row (i+j) dT
 ·rw[B] at A;rw[bR];exact h.free (i+j) dT
/-- A row of our own, a part of which a call has written. -/
theorem At.join {w D:World} {b o:Nat} {l cs:List Nat} {i n:Nat} (h:At w b o l) (g:GB b (o+i) n w D) (E:At D b (o+i) cs) (B:cs.length=n) (F:i+n≤l.length):
  At D b o (l.take i++(cs++l.drop (i+n))):=by
 have C:(l.take i).length=i:=by rw[aR];omega
 refine⟨okw_append.2 ⟨fq h.ok i,okw_append.2 ⟨E.ok,gz h.ok _⟩⟩,ad h.hb g.size,fun j A=> ?_,fun j A=> ?_⟩
 ·rw[ag,ag,C,B,bO] at A;by_cases h1:j<i
  ·rw[jZ dT,getD_take h1,g.cell _ dT];exact h.row j dT
  ·rw[jo dT,C];by_cases h2:j-i<n
   ·rw[jZ dT];have:=E.row (j-i) dT
    rwa[show o+i+(j-i)=o+j from by omega] at this
   ·rw[jo dT,getD_drop,B,show i+n+(j-i-n)=j from by omega,g.cell _ dT];exact h.row j dT
 ·rw[ag,ag,C,B,bO] at A;rw[g.frozen];exact h.free j dT
theorem q03 {l cs:List Nat} {i n:Nat} (A:cs.length=n) (B:i≤l.length):
  val (l.take i++(cs++l.drop (i+n)))=val (l.take i)+2^(64*i)*(val cs+2^(64*n)*val (l.drop (i+n))):=by
 rw[val_append,val_append,aR,bE B,A]
theorem iS (l:List Nat) (i n:Nat) (A:i+n≤l.length):val l=val (l.take i)+2^(64*i)*(val ((l.drop i).take n)+2^(64*n)*val (l.drop (i+n))):=by
 rw[ez l i dT,ez (l.drop i) n (by rw[bO];omega),List.drop_drop]
theorem kx:(Tryz.prog.info? 78).map (fun i=>(i.zero,i.size,i.bytes))=some (some (.int .u64 0),1,8):=by kernel_rfl
/-- 'make(nat, n)', in every world. -/
theorem fc (n:Nat) (A:n≤1048576) (w:World):(Instr.makeSlice 25 (.int .i64 (n:Int)) (.int .i64 (n:Int))).run Tryz.prog w= .ok (.slice (some ⟨w.heap.size,0,none⟩) n n) (w.alloc (.cells (madeCells #[.int .u64 0] n) 78)):=
 run_make_row' 25 78 (.int .u64 0) 8 Tryz.underlying25 kx rfl .i64 .i64 n dT dT w
theorem jf (n:Nat):val (List.replicate n 0)=0:=by
 induction n with
 |zero=>rfl
 |succ n A=>rw[List.replicate_succ];simp [val,A]
/-- One step of a product. -/
theorem mX {zs cs l:List Nat} {i j n q x I:Nat} (hi:i<n) (F:zs.length=n+j) (E:zs.drop (i+j)=List.replicate (n-i) 0) (hv:val zs=val (l.take i)*I) (L:l.getD i 0=x)
  (A:cs.length=j) (D:val cs+2^(64*j)*q=val ((zs.drop i).take j)+x*I):
  ((zs.take i++(cs++zs.drop (i+j))).set (i+j) q).length=n+j∧
  ((zs.take i++(cs++zs.drop (i+j))).set (i+j) q).drop (i+1+j)=List.replicate (n-(i+1)) 0∧
  val ((zs.take i++(cs++zs.drop (i+j))).set (i+j) q)=val (l.take (i+1))*I:=by
 have C:(zs.take i).length=i:=by rw[aR];omega
 have B:(zs.take i++(cs++zs.drop (i+j))).length=n+j:=by rw[ag,ag,C,A,bO,F];omega
 have K:n-i=(n-(i+1))+1:=by omega
 rw[K,List.replicate_succ] at E;have J:(zs.take i++(cs++zs.drop (i+j))).set (i+j) q=zs.take i++(cs++(q::List.replicate (n-(i+1)) 0)):=by
  rw[List.set_append_right _ _ dT,C,List.set_append_right _ _ dT,A,E,show i+j-i-j=0 from by omega];rfl
 refine⟨by rw[av];exact B,?_,?_⟩
 ·rw[J,show zs.take i++(cs++(q::List.replicate (n-(i+1)) 0))=(zs.take i++cs++[q])++List.replicate (n-(i+1)) 0 from by simp];exact List.drop_left' (by rw[ag,ag,C,A];simp;omega)
 ·rw[J,val_append,val_append,C,A,ed,L,aH,← hv,iS zs i j dT,E];simp only[val,jf,bm,aP];rw[D,ax,aj];omega
/-- A row of our own, trimmed. -/
theorem eC {w:World} {b n:Nat} {cs:List Nat} (h:Own w b cs) (A:cs.length=n) (B:n≤1048576):
  Calls Tryz.prog 122 #[.slice (some ⟨b,0,none⟩) n n] w (ef w (val cs)):=by
 subst A;exact trim_c _ _ _ (h.sl _ (ay _)) B
/-- A word that is 0 adds nothing. -/
theorem mW {zs l:List Nat} {i j n A:Nat} (C:zs.drop (i+j)=List.replicate (n-i) 0) (hv:val zs=val (l.take i)*A) (B:l.getD i 0=0):
  zs.drop (i+1+j)=List.replicate (n-(i+1)) 0∧val zs=val (l.take (i+1))*A:=by
 refine⟨?_,by rw[ed,B,bm,aP];exact hv⟩;rw[show i+1+j=i+j+1 from by omega,← List.drop_drop,C,List.drop_replicate]
 congr 1
/-- The second one's words are gone along. -/
theorem mV (w:World) (va vb:Value) (l m:List Nat) (hl:Sl w va l) (hm:Sl w vb m) (dl:l.length+m.length≤1048000):
  Calls Tryz.prog 61 #[vb,va] w (ef w (val l*val m)):=by
 have bn:=hl.1;have HM:Hid _:=hm;obtain⟨pa,ca,rfl,cz,bq⟩:=ei hl;obtain⟨pb,cb,rfl,dk,bu⟩:=ei hm;have HA:=hi9 bq;have HB:=hi9 bu;clear bq bu hl hm;generalize hn:l.length=n at *;generalize hj:m.length=j at *;have HN:=hi9 hn;have HJ:=hi9 hj;clear hn hj;have bi:=fc (n+j) dT;rw[show ((n+j:Nat):Int)=(j:Int)+n from by omega] at bi;go_enter Tryz.func61,Tryz.ntmps61;go_wp2_with fail;have d:=hi9 (Own.at (eA w (n+j) 78));have cl:G w (w.alloc (.cells (madeCells #[.int .u64 0] (n+j)) 78)):=(af _).alloc _;generalize w.alloc (.cells (madeCells #[.int .u64 0] (n+j)) 78)=w0 at *;obtain⟨N,ao⟩:∃ N,N=w.heap.size:=⟨_,rfl⟩;rw[← ao] at d ⊢;have hle:w.heap.size≤N:=by omega
 clear ao bi
 go_loopw [16] (fun vk wr=>∃ (k:Nat) (zs:List Nat),k≤n∧vk= .int .i64 k∧zs.length=n+j∧zs.drop (k+j)=List.replicate (n-k) 0∧val zs=val (l.take k)*val m∧At wr N 0 zs∧G w wr) (fun vk _=>n-(intOf vk).toNat)
 case atStart=>exact⟨0,List.replicate (n+j) 0,bo _,rfl,by simp,by simp,by simp [val,jf],d.out,cl⟩
 case round=>
  obtain⟨k,zs,hk,rfl,C,I,B,A,O⟩:=hrel;by_cases ap:k<n
  ·obtain⟨b1,o1,rfl,S,E⟩:=HA.out k ap;have ci:=O.cell (p:=⟨b1,o1+k,none⟩) S E;have hx:=dW bn k;have HS:=fun q (cs:List Nat) h1 h2=>mX (zs:=zs) (cs:=cs) (l:=l) (x:=l.getD k 0) (q:=q) ap C I B rfl h1 h2;have HSub:=At.sub (i:=k) (n:=j) A dT;by_cases M:l.getD k 0=0
   ·obtain⟨cc,bv⟩:=mW I B M;rw[M] at ci;have Z:Hid _:=(⟨k+1,zs,by omega,by go_num,C,cc,bv,A,O⟩:∃ (k1:Nat) (zs:List Nat),k1≤n∧Value.int .i64 ((k:Int)+1)= .int .i64 k1∧zs.length=n+j∧zs.drop (k1+j)=List.replicate (n-k1) 0∧val zs=val (l.take k1)*val m∧At wr N 0 zs∧G w wr);clear HSub HS hx M A I B C E S O cc bv;go_wp2_with fail
    go_roundw
    case rel=>exact Z.out
    case measure=>simp only[intOf];omega
   have dq:decide (0<l.getD k 0)=true:=decide_eq_true dT;clear M;generalize l.getD k 0=x at *;have D:((zs.drop k).take j).length=j:=by rw[aR,bO];omega
   have bl:∀ b2 o2 n2 c2,Value.slice pb j cb= .slice (some ⟨b2,o2,none⟩) n2 c2→m≠[]→b2≠N:=by
    intro b2 o2 n2 c2 e cx;rcases HM.out.2 with ⟨h,-⟩|⟨b3,o3,c3,e3,-,h3,-⟩
    ·exact absurd h cx
    ·rw[e] at e3;injection e3 with e4;injection e4 with e5;injection e5 with e6;omega
   have c:Sl wr (.slice pb j cb) m:=by
    have h0:Sl w (.slice pb j cb) m:=⟨HM.out.1,by rw[HJ.out];exact HM.out.2⟩;exact h0.G O
   rw[az] at HSub;have Z:Hid _:=pQ wr N k (n+j-k) (.slice pb j cb) _ m x hx HSub (by rw[D];omega) c bl (by rw[D,HJ.out]) (by rw[D];omega);rw[D] at Z;have y:=hi9 HS;have s:=hi9 D;have HO:=hi9 A;have HZ:=hi9 C;have R:=hi9 O;clear HS bl c HSub D hx A I B C E S O;go_wp2_with fail;refine Calls.mono (P:=Tryz.prog) Z.out ?_;rintro e w1 ⟨cs,q,rfl,hq,L,am,J,W⟩;rw[s.out] at J L;have K:=At.join (o:=0) (i:=k) (n:=j) HO.out (by rw[az];exact J) (by rw[az];exact am) L (by rw[HZ.out];omega);have Y:=y.out q cs L (by rw[s.out] at W;exact W);have an:=GB.fresh R.out J hle;have cn:(zs.take k++(cs++zs.drop (k+j))).length=n+j:=by have:=Y.1;rwa[av] at this
   generalize zs.take k++(cs++zs.drop (k+j))=us at *;have U:=K.row (k+j) dT;have X:=K.free (k+j) dT;have F:=At.set K (k+j) q dT hq;rw[az] at U X F;generalize us.getD (k+j) 0=u at *;have HT:=hi9 Y;have al:=hi9 F;have cd:=hi9 an;clear Y F an K W am J L cn hq Z HO y;go_wp2_with fail
   go_roundw
   case rel=>exact⟨k+1,us.set (k+j) q,by omega,by go_num,HT.out.1,HT.out.2.1,HT.out.2.2,al.out,cd.out.setCell (p:=⟨N,k+j,none⟩) hle _⟩
   case measure=>simp only[intOf];omega
  ·obtain rfl:k=n:=by omega
   have hv:val zs=val l*val m:=by rw[B,aw (by rw[HN.out];omega)]
   have Y:=hi9 (eC A.own C dT);rw[hv] at Y;have R:=hi9 O;clear hv B I C A O;go_wp2_with fail;refine Calls.mono (P:=Tryz.prog) Y.out ?_;rintro e w1 ⟨v1,rfl,ce,cr⟩;go_wp2_with fail;go_ret;exact⟨v1,rfl,aa R.out ce,cr⟩
theorem iz (w:World) (va E:Value) (a b K:Nat) (N:K≤500000) (F:Num w va a) (hb:Num w E b) (A:a<2^(64*K)) (B:b<2^(64*K)):
  Calls Tryz.prog 61 #[va,E] w (ef w (a*b)):=by
 obtain⟨l,I,C,rfl⟩:=F;obtain⟨m,L,D,rfl⟩:=hb;have J:=dX C A;have M:=dX D B;rw[aF];exact mV w E va m l L I dT
end Go.Proofs.YtfnkkkcojnffdaaGreatDoor.EN
