/- What is proved here: contracts of package exact: shrink, over this seat's translation.
What is proved here: contracts of package exact: gather, over this seat's translation.
What is proved here: contracts of package exact: parts of rows of our own, times, over this seat's translation.
What is proved here: contracts of package exact: times, over this seat's translation. -/
import Derived.Test.YtohcneeihdkfgaaGreatDoorQ1
import Derived.Test.YtohcneeihdkfgaaGreatDoorQ3
import Derived.Test.YtohcneeihdkfgaaGreatDoorQ12
import Derived.Test.YtohcneeihdkfgaaGreatDoorQ21
namespace Go.Proofs.YtohcneeihdkfgaaGreatDoor.EN
open Go.ChangeShapes Go.WideShapes Go.ChangeAt Go.RowKit
theorem q2R (y w c:Nat) (C:y<2^64) (B:w<2^64) (A:c≤2^64-2):
  ∃ hi lo a c1,y*w/2^64=hi∧y*w%2^64=lo∧(lo+c+0)%2^64=a∧(lo+c+0)/2^64=c1∧hi<2^64∧lo<2^64∧a<2^64∧c1≤1∧c1+hi≤2^64-2∧y*w+c=a+2^64*(c1+hi):=by
 have h1:y*w≤(2^64-1)*(2^64-1):=bF eX eX;generalize y*w=p at *;refine⟨_,_,_,_,rfl,rfl,rfl,rfl,?_,?_,?_,?_,?_,?_⟩<;>omega
theorem rQ (x a d:Nat) (C:x<2^64) (A:a<2^64) (B:d≤1):
  ∃ r d',(x+2^64-a-d)%2^64=r∧(if x<a+d then 1 else 0:Nat)=d'∧r<2^64∧d'≤1∧x+2^64*d'=r+d+a:=by
 by_cases h:x<a+d
 ·exact⟨_,1,rfl,if_pos h,by omega,by omega,by omega⟩
 ·exact⟨_,0,rfl,if_neg h,by omega,by omega,by omega⟩
/-- One step of a taking away in place. -/
theorem rL {l cs m:List Nat} {k c d c' d' n r w:Nat} (C:k<n) (A:cs.length=n)
  (h:val (l.take k)+2^(64*k)*(c+d)=val (cs.take k)+w*val (m.take k)) (B:l.getD k 0+2^64*(c'+d')=r+d+(m.getD k 0*w+c)):
  val (l.take (k+1))+2^(64*(k+1))*(c'+d')=val ((cs.set k r).take (k+1))+w*val (m.take (k+1)):=by
 rw[fK eX,fi l,fi m];generalize l.getD k 0=x at *;generalize m.getD k 0=y at *;rw[show 64*(k+1)=64*k+64 from by omega,ah,ar,cM,← aE,B];have e:w*(2^(64*k)*y)=2^(64*k)*(y*w):=by rw[aJ y w,db]
 rw[aE w,e];simp only[aE] at h ⊢;omega
theorem ow {l cs:List Nat} {k n r:Nat} (J:k<n) (F:cs.length=n) (I:l.length=n) (A:cs.drop k=l.drop k):cs.getD k 0=l.getD k 0∧(cs.set k r).drop (k+1)=l.drop (k+1):=by
 have B:=fD (l:=cs) (k:=k) eX;have C:=fD (l:=l) (k:=k) eX;rw[B,C] at A;injection A with D E;refine⟨D,?_⟩;rw[cA eX,E]
/-- What shrink hands back, and leaves in memory: s is what is to be taken away. -/
def q17 (w:World) (b o:Nat) (l:List Nat) (s:Nat) (e:Ending) (A:World):Prop:=
 ∃ (cs:List Nat) (q:Nat),e= .returned (.bool (decide (0<q)))∧cs.length=l.length∧At A b o cs∧GB b o l.length w A∧val l+2^(64*l.length)*q=val cs+s
theorem nM (w:World) (b o c:Nat) (vb:Value) (l m:List Nat) (f:Nat) (hf:f<2^64) (hz:At w b o l) (hc:l.length≤c) (hb:Sl w vb m) (M:∀ b2 o2 n2 c2,vb= .slice (some ⟨b2,o2,none⟩) n2 c2→m≠[]→b2≠b) (bn:m.length≤l.length) (bz:l.length≤1048000):
  Calls Tryz.prog 234 #[.slice (some ⟨b,o,none⟩) l.length c,vb,.int .u64 (f:Int)] w (q17 w b o l (f*val m)):=by
 have ai:=hz.ok;have al:=hb.1;obtain⟨pb,cb,rfl,bu,am⟩:=fF hb;have HB:=hi9 am;have HZ:=hi9 hz;have HD:=hi9 M;have HF:=hi9 hf;clear am hb hz M hf;generalize hn:l.length=n at *;generalize hj:m.length=j at *;have HN:=hi9 hn;have HJ:=hi9 hj;clear hn hj;have KM:Hid _:=fun x y R S w=>Tryz.bits_Mul64 x y R S w;go_enter Tryz.func234,Tryz.ntmps234;go_wp2_with fail
 go_loopw [7,8,15] (fun vc vd vk wr=>∃ (k g d:Nat) (cs:List Nat),k≤n∧vk= .int .i64 k∧vc= .int .u64 g∧vd= .int .u64 d∧g≤2^64-2∧d≤1∧cs.length=n∧cs.drop k=l.drop k∧At wr b o cs∧GB b o n w wr∧val (l.take k)+2^(64*k)*(g+d)=val (cs.take k)+f*val (m.take k)) (fun _ _ vk _=>n-(intOf vk).toNat)
 case atStart=>exact⟨0,0,0,l,bU _,rfl,rfl,rfl,by omega,by omega,HN.out,rfl,HZ.out,GB.refl _ _ _ _ HZ.out.hb,by simp [val]⟩
 case round=>
  obtain⟨k,g,d,cs,hk,rfl,rfl,rfl,hg,M,D,O,A,hG,B⟩:=hrel;have U:=hi9 D;have HO:=hi9 A;have HG:=hi9 hG;have ap:=hi9 hg;have bw:(g:Int)≤18446744073709551614:=by omega
  have bv:(d:Int)≤1:=by omega
  by_cases F:k<n
  ·have R:=ff ai k;have S:=ff al k;have q1:=fun r=>ow (r:=r) F D HN.out O;have Q1:Hid _:=fun r=>(q1 r).2;have q0:=(q1 0).1;have E:Hid _:=fun (c' d' r:Nat)=>rL (c':=c') (d':=d') (r:=r) F D B;have L:=A.row k eX;have bl:=A.free k eX;rw[q0] at L;clear q1 q0 B O A D;by_cases bm:k<j
   ·obtain⟨b2,o2,rfl,af,J⟩:=HB.out k bm;have ag:=HD.out b2 o2 _ _ rfl (fun e=>by have h:=HJ.out;rw[e,ed] at h;omega);have bs:=(HG.out.other af ag).trans J;clear J af ag hG;generalize l.getD k 0=x at *;generalize m.getD k 0=y at *;obtain⟨hi,lo,a,c1,e1,e2,e3,e4,h1,h2,h3,h4,h5,h6⟩:=q2R y f g S HF.out ap.out;obtain⟨r,d',Y,Z,i,s,h9⟩:=rQ x a d R h3 M;have I:=lq lo g 0 eX;have C:=q0W x a d M;have X:=fun w=>KM.out y f S HF.out w;rw[show (18446744073709551616:Nat)=2^64 from rfl] at I C;rw[show ((0:Nat):Int)=0 from rfl,e3,e4] at I;rw[Y,Z] at C;have q3:=E.out (c1+hi) d' r (by rw[h6];omega);have Q2:=hi9 (Q1.out r);have bi:Hid (∀ w:World,Calls Tryz.prog 240 #[.int .u64 y,.int .u64 f] w fun e w'=>e= .returned (.tuple #[.int .u64 (hi:Int),.int .u64 (lo:Int)])∧w'=w):=fun w=>(X w).mono (by rintro e w' ⟨rfl,rfl⟩;exact⟨by rw[← e1,← e2],rfl⟩);clear E Q1 X e1 e2 e3 e4 Y Z h6 h9 R S;have E:=hi9 q3;have HR:=hi9 i;have N:=s;have bq:(c1:Int)+hi≤18446744073709551614:=by omega
    clear q3 i h1 h2 h3 h4 s hg;go_wp2_with fail;refine Calls.mono (P:=Tryz.prog) (bi.out wr) ?_;rintro e w1 ⟨rfl,rfl⟩;go_wp2_with fail
    go_roundw
    case rel=>exact⟨k+1,c1+hi,d',cs.set k r,by omega,by go_num,by go_num,rfl,by omega,N,by rw[aF];exact U.out,Q2.out,At.set HO.out k r (by rw[U.out];omega) HR.out,GB.set HG.out F _,E.out⟩
    case measure=>simp only[intOf];omega
   ·have an:m.getD k 0=0:=by rw[ak,bo (by rw[HJ.out];omega)];rfl
    rw[an] at E;clear S an hG;generalize l.getD k 0=x at *;obtain⟨r,d',Y,Z,i,s,h9⟩:=rQ x g d R eX M;have C:=q0W x g d M;rw[show (18446744073709551616:Nat)=2^64 from rfl,Y,Z] at C;have q3:=E.out 0 d' r eX;have Q2:=hi9 (Q1.out r);clear E Q1 Y Z h9 R;have E:=hi9 q3;have HR:=hi9 i;have N:=s;clear q3 i s hg;go_wp2_with fail
    go_roundw
    case rel=>exact⟨k+1,0,d',cs.set k r,by omega,by go_num,rfl,rfl,by omega,N,by rw[aF];exact U.out,Q2.out,At.set HO.out k r (by rw[U.out];omega) HR.out,GB.set HG.out F _,E.out⟩
    case measure=>simp only[intOf];omega
  ·obtain rfl:k=n:=by omega
   have hv:val l+2^(64*k)*(g+d)=val cs+f*val m:=by
    rw[aH (by rw[HN.out];omega),aH (by rw[D];omega),aH (by rw[HJ.out];omega)] at B;exact B
   have HV:=hi9 hv;have W:=HN.out;have K:Hid (l.length=k):=W;have ht:decide (0<(g:Int)+d)=decide (0<g+d):=by congr 1;apply propext;omega
   have HT:=hi9 ht;clear hv B O A hG D W hg ht;go_wp2_with fail;go_ret;refine⟨cs,g+d,?_,by rw[U.out,K.out],HO.out,by rw[K.out];exact HG.out,by rw[K.out];exact HV.out⟩;show Ending.returned (Value.bool (decide (0<(g:Int)+d)))=_;rw[HT.out]
theorem qL (y w g x:Nat) (E:y<2^64) (C:w<2^64) (B:g<2^64) (D:x<2^64):
  ∃ hi lo a c1 r A,y*w/2^64=hi∧y*w%2^64=lo∧(lo+g+0)%2^64=a∧(lo+g+0)/2^64=c1∧(x+a+0)%2^64=r∧(x+a+0)/2^64=A∧
   hi+c1<2^64∧r<2^64∧hi+c1+A<2^64∧y*w+g+x=r+2^64*(hi+c1+A):=by
 have h1:y*w≤(2^64-1)*(2^64-1):=bF eX eX;generalize y*w=p at *;refine⟨_,_,_,_,_,_,rfl,rfl,rfl,rfl,rfl,rfl,?_,?_,?_,?_⟩<;>omega
/-- One step of a gathering in place. -/
theorem qK {l cs m:List Nat} {k g g' n r w:Nat} (C:k<n) (A:cs.length=n)
  (h:val (cs.take k)+2^(64*k)*g=val (l.take k)+w*val (m.take k)) (B:m.getD k 0*w+g+l.getD k 0=r+2^64*g'):
  val ((cs.set k r).take (k+1))+2^(64*(k+1))*g'=val (l.take (k+1))+w*val (m.take (k+1)):=by
 rw[fK eX,fi l,fi m];generalize l.getD k 0=x at *;generalize m.getD k 0=y at *;rw[show 64*(k+1)=64*k+64 from by omega,ah,ar,cM,← aE,← B];have e:w*(2^(64*k)*y)=2^(64*k)*(y*w):=by rw[aJ y w,db]
 rw[aE w,e];simp only[aE] at h ⊢;omega
/-- What gather hands back, and leaves in memory: s is the sum of what was there and what is added. -/
def q0Z (w:World) (b o:Nat) (l:List Nat) (s:Nat) (e:Ending) (A:World):Prop:=
 ∃ (cs:List Nat) (q:Nat),e= .returned (.int .u64 (q:Int))∧q<2^64∧cs.length=l.length∧At A b o cs∧GB b o l.length w A∧val cs+2^(64*l.length)*q=s
theorem q2G (w:World) (b o c:Nat) (vb:Value) (l m:List Nat) (f:Nat) (hf:f<2^64) (hz:At w b o l) (hc:l.length≤c) (hb:Sl w vb m) (hd:∀ s o2 n2 S,vb= .slice (some ⟨s,o2,none⟩) n2 S→m≠[]→s≠b) (E:m.length=l.length) (ap:l.length≤1048000):
  Calls Tryz.prog 166 #[.slice (some ⟨b,o,none⟩) l.length c,vb,.int .u64 (f:Int)] w (q0Z w b o l (val l+f*val m)):=by
 have X:=hz.ok;have Y:=hb.1;obtain⟨pb,cb,rfl,ag,Z⟩:=fF hb;have HB:=hi9 Z;have HZ:=hi9 hz;have HD:=hi9 hd;have HF:=hi9 hf;clear Z hb hz hd hf;generalize hn:l.length=n at *;have i:=hi9 hn;have HJ:=hi9 E;rw[E] at HB HD ag ⊢;clear hn E;have KM:Hid _:=fun x y hx d w=>Tryz.bits_Mul64 x y hx d w;go_enter Tryz.func166,Tryz.ntmps166;go_wp2_with fail
 go_loopw [7,15] (fun vc vk wr=>∃ (k g:Nat) (cs:List Nat),k≤n∧vk= .int .i64 k∧vc= .int .u64 g∧g<2^64∧cs.length=n∧cs.drop k=l.drop k∧At wr b o cs∧GB b o n w wr∧val (cs.take k)+2^(64*k)*g=val (l.take k)+f*val (m.take k)) (fun _ vk _=>n-(intOf vk).toNat)
 case atStart=>exact⟨0,0,l,bU _,rfl,rfl,by omega,i.out,rfl,HZ.out,GB.refl _ _ _ _ HZ.out.hb,by simp [val]⟩
 case round=>
  obtain⟨k,g,cs,hk,rfl,rfl,hg,D,M,A,hG,B⟩:=hrel;have HC:=hi9 D;have HO:=hi9 A;have HG:=hi9 hG;have N:=hi9 hg;by_cases F:k<n
  ·have hx:=ff X k;have d:=ff Y k;have q1:=fun r=>ow (r:=r) F D i.out M;have Q1:Hid _:=fun r=>(q1 r).2;have q0:=(q1 0).1;have j:Hid _:=fun (g' r:Nat)=>qK (g':=g') (r:=r) F D B;have L:=A.row k eX;have ai:=A.free k eX;rw[q0] at L;clear q1 q0 B M A D;obtain⟨s,o2,rfl,U,J⟩:=HB.out k F;have W:=HD.out s o2 _ _ rfl (fun e=>by have h:=HJ.out;rw[e,ed] at h;omega);have an:=(HG.out.other U W).trans J;clear J U W hG;generalize l.getD k 0=x at *;generalize m.getD k 0=y at *;obtain⟨hi,lo,a,c1,r,S,e1,e2,e3,e4,e5,e6,h1,h2,h3,h4⟩:=qL y f g x d HF.out N.out hx;have I:=lq lo g 0 eX;have C:=lq x a 0 eX;have R:=fun w=>KM.out y f d HF.out w;rw[show (18446744073709551616:Nat)=2^64 from rfl] at I C;rw[show ((0:Nat):Int)=0 from rfl,e3,e4] at I;rw[show ((0:Nat):Int)=0 from rfl,e5,e6] at C;have q3:=j.out (hi+c1+S) r h4;have Q2:=hi9 (Q1.out r);have af:Hid (∀ w:World,Calls Tryz.prog 240 #[.int .u64 y,.int .u64 f] w fun e w'=>e= .returned (.tuple #[.int .u64 (hi:Int),.int .u64 (lo:Int)])∧w'=w):=fun w=>(R w).mono (by rintro e w' ⟨rfl,rfl⟩;exact⟨by rw[← e1,← e2],rfl⟩);clear j Q1 R e1 e2 e3 e4 e5 e6 h4 hx d;have j:=hi9 q3;have HR:=hi9 h2;have H3:=hi9 h3;have al:(hi:Int)+c1≤18446744073709551615:=by omega
   have am:(hi:Int)+c1+S≤18446744073709551615:=by omega
   clear q3 h1 h2 h3 hg;go_wp2_with fail;refine Calls.mono (P:=Tryz.prog) (af.out wr) ?_;rintro e w1 ⟨rfl,rfl⟩;go_wp2_with fail
   go_roundw
   case rel=>exact⟨k+1,hi+c1+S,cs.set k r,by omega,by go_num,by go_num,H3.out,by rw[aF];exact HC.out,Q2.out,At.set HO.out k r (by rw[HC.out];omega) HR.out,GB.set HG.out F _,j.out⟩
   case measure=>simp only[intOf];omega
  ·obtain rfl:k=n:=by omega
   have hv:val cs+2^(64*k)*g=val l+f*val m:=by
    rw[aH eX,aH (by rw[i.out];omega),aH (by rw[HJ.out];omega)] at B;exact B
   have HV:=hi9 hv;have O:=i.out;have K:Hid (l.length=k):=O;clear hv B M A hG D O hg;go_wp2_with fail;go_ret;exact⟨cs,g,rfl,N.out,by rw[HC.out,K.out],HO.out,by rw[K.out];exact HG.out,by rw[K.out];exact HV.out⟩
theorem getD_drop (l:List Nat) (i j:Nat):(l.drop i).getD j 0=l.getD (i+j) 0:=by
 rw[ak,ak,List.getElem?_drop]
theorem getD_take {l:List Nat} {n j:Nat} (h:j<n):(l.take n).getD j 0=l.getD j 0:=by
 rw[ak,ak,eQ h]
theorem oA {l m:List Nat} {j:Nat} (h:j<l.length):(l++m).getD j 0=l.getD j 0:=by
 rw[ak,ak,List.getElem?_append_left h]
theorem mY {l m:List Nat} {j:Nat} (h:l.length≤j):(l++m).getD j 0=m.getD (j-l.length) 0:=by
 rw[ak,ak,List.getElem?_append_right h]
/-- A part of a row of our own. -/
theorem At.sub {w:World} {b o:Nat} {l:List Nat} (h:At w b o l) {i n:Nat} (C:i+n≤l.length):At w b (o+i) ((l.drop i).take n):=by
 have B:((l.drop i).take n).length=n:=by rw[bD,dt];omega
 refine⟨iM (kA h.ok i) n,h.hb,fun j A=> ?_,fun j A=> ?_⟩
 ·rw[B] at A;rw[getD_take A,getD_drop,cM];exact h.row (i+j) eX
 ·rw[B] at A;rw[cM];exact h.free (i+j) eX
/-- A row of our own, a part of which a call has written. -/
theorem At.join {w D:World} {b o:Nat} {l cs:List Nat} {i n:Nat} (h:At w b o l) (g:GB b (o+i) n w D) (E:At D b (o+i) cs) (B:cs.length=n) (F:i+n≤l.length):
  At D b o (l.take i++(cs++l.drop (i+n))):=by
 have C:(l.take i).length=i:=by rw[bD];omega
 refine⟨okw_append.2 ⟨iM h.ok i,okw_append.2 ⟨E.ok,kA h.ok _⟩⟩,aj h.hb g.size,fun j A=> ?_,fun j A=> ?_⟩
 ·rw[br,br,C,B,dt] at A;by_cases h1:j<i
  ·rw[oA eX,getD_take h1,g.cell _ eX];exact h.row j eX
  ·rw[mY eX,C];by_cases h2:j-i<n
   ·rw[oA eX];have:=E.row (j-i) eX
    rwa[show o+i+(j-i)=o+j from by omega] at this
   ·rw[mY eX,getD_drop,B,show i+n+(j-i-n)=j from by omega,g.cell _ eX];exact h.row j eX
 ·rw[br,br,C,B,dt] at A;rw[g.frozen];exact h.free j eX
theorem q3X {l cs:List Nat} {i n:Nat} (A:cs.length=n) (B:i≤l.length):
  val (l.take i++(cs++l.drop (i+n)))=val (l.take i)+2^(64*i)*(val cs+2^(64*n)*val (l.drop (i+n))):=by
 rw[val_append,val_append,bD,ck B,A]
theorem mg (l:List Nat) (i n:Nat) (A:i+n≤l.length):val l=val (l.take i)+2^(64*i)*(val ((l.drop i).take n)+2^(64*n)*val (l.drop (i+n))):=by
 rw[gk l i eX,gk (l.drop i) n (by rw[dt];omega),List.drop_drop]
theorem pN:(Tryz.prog.info? 90).map (fun i=>(i.zero,i.size,i.bytes))=some (some (.int .u64 0),1,8):=by kernel_rfl
/-- 'make(nat, n)', in every world. -/
theorem gV (n:Nat) (A:n≤1048576) (w:World):(Instr.makeSlice 25 (.int .i64 (n:Int)) (.int .i64 (n:Int))).run Tryz.prog w= .ok (.slice (some ⟨w.heap.size,0,none⟩) n n) (w.alloc (.cells (madeCells #[.int .u64 0] n) 90)):=
 run_make_row' 25 90 (.int .u64 0) 8 Tryz.underlying25 pN rfl .i64 .i64 n eX eX w
theorem mP (n:Nat):val (List.replicate n 0)=0:=by
 induction n with
 |zero=>rfl
 |succ n A=>rw[List.replicate_succ];simp [val,A]
/-- One step of a product. -/
theorem q0r {zs cs l:List Nat} {i j n q x vb:Nat} (hi:i<n) (F:zs.length=n+j) (E:zs.drop (i+j)=List.replicate (n-i) 0) (hv:val zs=val (l.take i)*vb) (K:l.getD i 0=x)
  (A:cs.length=j) (D:val cs+2^(64*j)*q=val ((zs.drop i).take j)+x*vb):
  ((zs.take i++(cs++zs.drop (i+j))).set (i+j) q).length=n+j∧
  ((zs.take i++(cs++zs.drop (i+j))).set (i+j) q).drop (i+1+j)=List.replicate (n-(i+1)) 0∧
  val ((zs.take i++(cs++zs.drop (i+j))).set (i+j) q)=val (l.take (i+1))*vb:=by
 have C:(zs.take i).length=i:=by rw[bD];omega
 have B:(zs.take i++(cs++zs.drop (i+j))).length=n+j:=by rw[br,br,C,A,dt,F];omega
 have J:n-i=(n-(i+1))+1:=by omega
 rw[J,List.replicate_succ] at E;have I:(zs.take i++(cs++zs.drop (i+j))).set (i+j) q=zs.take i++(cs++(q::List.replicate (n-(i+1)) 0)):=by
  rw[List.set_append_right _ _ eX,C,List.set_append_right _ _ eX,A,E,show i+j-i-j=0 from by omega];rfl
 refine⟨by rw[aF];exact B,?_,?_⟩
 ·rw[I,show zs.take i++(cs++(q::List.replicate (n-(i+1)) 0))=(zs.take i++cs++[q])++List.replicate (n-(i+1)) 0 from by simp];exact List.drop_left' (by rw[br,br,C,A];simp;omega)
 ·rw[I,val_append,val_append,C,A,fi,K,aL,← hv,mg zs i j eX,E];simp only[val,mP,bG,aP];rw[D,aE,ar];omega
/-- A row of our own, trimmed. -/
theorem gi {w:World} {b n:Nat} {cs:List Nat} (h:Own w b cs) (A:cs.length=n) (B:n≤1048576):
  Calls Tryz.prog 167 #[.slice (some ⟨b,0,none⟩) n n] w (fo w (val cs)):=by
 subst A;exact trim_c _ _ _ (h.sl _ (aI _)) B
/-- A word that is 0 adds nothing. -/
theorem q0q {zs l:List Nat} {i j n vb:Nat} (B:zs.drop (i+j)=List.replicate (n-i) 0) (hv:val zs=val (l.take i)*vb) (A:l.getD i 0=0):
  zs.drop (i+1+j)=List.replicate (n-(i+1)) 0∧val zs=val (l.take (i+1))*vb:=by
 refine⟨?_,by rw[fi,A,bG,aP];exact hv⟩;rw[show i+1+j=i+j+1 from by omega,← List.drop_drop,B,eG]
 congr 1
/-- The second one's words are gone along. -/
theorem q0p (w:World) (va vb:Value) (l m:List Nat) (hl:Sl w va l) (hm:Sl w vb m) (cr:l.length+m.length≤1048000):
  Calls Tryz.prog 79 #[vb,va] w (fo w (val l*val m)):=by
 have bi:=hl.1;have HM:Hid _:=hm;obtain⟨pa,ca,rfl,ci,bl⟩:=fF hl;obtain⟨pb,cb,rfl,cl,bm⟩:=fF hm;have HA:=hi9 bl;have HB:=hi9 bm;clear bl bm hl hm;generalize hn:l.length=n at *;generalize hj:m.length=j at *;have HN:=hi9 hn;have HJ:=hi9 hj;clear hn hj;have an:=gV (n+j) eX;rw[show ((n+j:Nat):Int)=(j:Int)+n from by omega] at an;go_enter Tryz.func79,Tryz.ntmps79;go_wp2_with fail;have d:=hi9 (Own.at (gh w (n+j) 90));have bw:G w (w.alloc (.cells (madeCells #[.int .u64 0] (n+j)) 90)):=(ad _).alloc _;generalize w.alloc (.cells (madeCells #[.int .u64 0] (n+j)) 90)=w0 at *;obtain⟨N,al⟩:∃ N,N=w.heap.size:=⟨_,rfl⟩;rw[← al] at d ⊢;have hle:w.heap.size≤N:=by omega
 clear al an
 go_loopw [16] (fun vk wr=>∃ (k:Nat) (zs:List Nat),k≤n∧vk= .int .i64 k∧zs.length=n+j∧zs.drop (k+j)=List.replicate (n-k) 0∧val zs=val (l.take k)*val m∧At wr N 0 zs∧G w wr) (fun vk _=>n-(intOf vk).toNat)
 case atStart=>exact⟨0,List.replicate (n+j) 0,bU _,rfl,by simp,by simp,by simp [val,mP],d.out,bw⟩
 case round=>
  obtain⟨k,zs,hk,rfl,C,I,B,A,O⟩:=hrel;by_cases am:k<n
  ·obtain⟨b1,o1,rfl,S,E⟩:=HA.out k am;have bv:=O.cell (p:=⟨b1,o1+k,none⟩) S E;have hx:=ff bi k;have HS:=fun q (cs:List Nat) h1 h2=>q0r (zs:=zs) (cs:=cs) (l:=l) (x:=l.getD k 0) (q:=q) am C I B rfl h1 h2;have HSub:=At.sub (i:=k) (n:=j) A eX;by_cases M:l.getD k 0=0
   ·obtain⟨bq,bn⟩:=q0q I B M;rw[M] at bv;have Z:Hid _:=(⟨k+1,zs,by omega,by go_num,C,bq,bn,A,O⟩:∃ (k1:Nat) (zs:List Nat),k1≤n∧Value.int .i64 ((k:Int)+1)= .int .i64 k1∧zs.length=n+j∧zs.drop (k1+j)=List.replicate (n-k1) 0∧val zs=val (l.take k1)*val m∧At wr N 0 zs∧G w wr);clear HSub HS hx M A I B C E S O bq bn;go_wp2_with fail
    go_roundw
    case rel=>exact Z.out
    case measure=>simp only[intOf];omega
   have cz:decide (0<l.getD k 0)=true:=decide_eq_true eX;clear M;generalize l.getD k 0=x at *;have D:((zs.drop k).take j).length=j:=by rw[bD,dt];omega
   have ap:∀ b2 o2 n2 c2,Value.slice pb j cb= .slice (some ⟨b2,o2,none⟩) n2 c2→m≠[]→b2≠N:=by
    intro b2 o2 n2 c2 e ce;rcases HM.out.2 with ⟨h,-⟩|⟨b3,o3,c3,e3,-,h3,-⟩
    ·exact absurd h ce
    ·rw[e] at e3;injection e3 with e4;injection e4 with e5;injection e5 with e6;omega
   have c:Sl wr (.slice pb j cb) m:=by
    have h0:Sl w (.slice pb j cb) m:=⟨HM.out.1,by rw[HJ.out];exact HM.out.2⟩;exact h0.G O
   rw[aK] at HSub;have Z:Hid _:=q2G wr N k (n+j-k) (.slice pb j cb) _ m x hx HSub (by rw[D];omega) c ap (by rw[D,HJ.out]) (by rw[D];omega);rw[D] at Z;have y:=hi9 HS;have s:=hi9 D;have HO:=hi9 A;have HZ:=hi9 C;have R:=hi9 O;clear HS ap c HSub D hx A I B C E S O;go_wp2_with fail;refine Calls.mono (P:=Tryz.prog) Z.out ?_;rintro e w1 ⟨cs,q,rfl,hq,L,ag,J,W⟩;rw[s.out] at J L;have K:=At.join (o:=0) (i:=k) (n:=j) HO.out (by rw[aK];exact J) (by rw[aK];exact ag) L (by rw[HZ.out];omega);have Y:=y.out q cs L (by rw[s.out] at W;exact W);have ai:=GB.fresh R.out J hle;have cc:(zs.take k++(cs++zs.drop (k+j))).length=n+j:=by have:=Y.1;rwa[aF] at this
   generalize zs.take k++(cs++zs.drop (k+j))=us at *;have U:=K.row (k+j) eX;have X:=K.free (k+j) eX;have F:=At.set K (k+j) q eX hq;rw[aK] at U X F;generalize us.getD (k+j) 0=u at *;have HT:=hi9 Y;have af:=hi9 F;have bs:=hi9 ai;clear Y F ai K W ag J L cc hq Z HO y;go_wp2_with fail
   go_roundw
   case rel=>exact⟨k+1,us.set (k+j) q,by omega,by go_num,HT.out.1,HT.out.2.1,HT.out.2.2,af.out,bs.out.setCell (p:=⟨N,k+j,none⟩) hle _⟩
   case measure=>simp only[intOf];omega
  ·obtain rfl:k=n:=by omega
   have hv:val zs=val l*val m:=by rw[B,aH (by rw[HN.out];omega)]
   have Y:=hi9 (gi A.own C eX);rw[hv] at Y;have R:=hi9 O;clear hv B I C A O;go_wp2_with fail;refine Calls.mono (P:=Tryz.prog) Y.out ?_;rintro e w1 ⟨v1,rfl,bu,cd⟩;go_wp2_with fail;go_ret;exact⟨v1,rfl,ab R.out bu,cd⟩
theorem jD (w:World) (va vb:Value) (a b K:Nat) (M:K≤500000) (E:Num w va a) (hb:Num w vb b) (A:a<2^(64*K)) (B:b<2^(64*K)):
  Calls Tryz.prog 79 #[va,vb] w (fo w (a*b)):=by
 obtain⟨l,F,C,rfl⟩:=E;obtain⟨m,J,D,rfl⟩:=hb;have I:=fg C A;have L:=fg D B;rw[aJ];exact q0p w vb va m l J F eX
end Go.Proofs.YtohcneeihdkfgaaGreatDoor.EN
