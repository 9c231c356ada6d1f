/- What is proved here: contracts of package exact: shrink, over this seat's translation.
What is proved here: contracts of package exact: gather, over this seat's translation.
What is proved here: contracts of package exact: parts of rows of our own, times, over this seat's translation.
What is proved here: contracts of package exact: times, over this seat's translation. -/
import Derived.Test.YtbfjihniphldaaaGreatDoorC4
import Derived.Test.YtbfjihniphldaaaGreatDoorC10
namespace Go.Proofs.YtbfjihniphldaaaGreatDoor.EN
open Go.ChangeShapes Go.WideShapes Go.ChangeAt Go.RowKit
theorem q99 (y w c:Nat) (hy:y<2^64) (hw:w<2^64) (hc:c≤2^64-2):
  ∃ hi lo a c1,y*w/2^64=hi∧y*w%2^64=lo∧(lo+c+0)%2^64=a∧(lo+c+0)/2^64=c1∧hi<2^64∧lo<2^64∧a<2^64∧c1≤1∧c1+hi≤2^64-2∧y*w+c=a+2^64*(c1+hi):=by
 have h1:y*w≤(2^64-1)*(2^64-1):=Nat.mul_le_mul (by omega) (by omega);generalize y*w=p at *;refine⟨_,_,_,_,rfl,rfl,rfl,rfl,?_,?_,?_,?_,?_,?_⟩<;>omega
theorem q6w (x a d:Nat) (hx:x<2^64) (ha:a<2^64) (hd:d≤1):
  ∃ r d',(x+2^64-a-d)%2^64=r∧(if x<a+d then 1 else 0:Nat)=d'∧r<2^64∧d'≤1∧x+2^64*d'=r+d+a:=by
 by_cases h:x<a+d
 ·exact⟨_,1,rfl,if_pos h,by omega,by omega,by omega⟩
 ·exact⟨_,0,rfl,if_neg h,by omega,by omega,by omega⟩
/-- One step of a taking away in place. -/
theorem q5C {l cs m:List Nat} {k c d c' d' n r w:Nat} (hk:k<n) (hcs:cs.length=n)
  (h:val (l.take k)+2^(64*k)*(c+d)=val (cs.take k)+w*val (m.take k)) (hw:l.getD k 0+2^64*(c'+d')=r+d+(m.getD k 0*w+c)):
  val (l.take (k+1))+2^(64*(k+1))*(c'+d')=val ((cs.set k r).take (k+1))+w*val (m.take (k+1)):=by
 rw[q0j (by omega),q07 l,q07 m];generalize l.getD k 0=x at *;generalize m.getD k 0=y at *;rw[show 64*(k+1)=64*k+64 from by omega,Nat.pow_add,Nat.mul_assoc,Nat.add_assoc,← Nat.mul_add,hw];have e:w*(2^(64*k)*y)=2^(64*k)*(y*w):=by rw[Nat.mul_comm y w,Nat.mul_left_comm]
 rw[Nat.mul_add w,e];simp only[Nat.mul_add] at h ⊢;omega
theorem q4x {l cs:List Nat} {k n r:Nat} (hk:k<n) (hcs:cs.length=n) (hln:l.length=n) (hst:cs.drop k=l.drop k):cs.getD k 0=l.getD k 0∧(cs.set k r).drop (k+1)=l.drop (k+1):=by
 have e1:=q0h (l:=cs) (k:=k) (by omega);have e2:=q0h (l:=l) (k:=k) (by omega);rw[e1,e2] at hst;injection hst with e3 e4;refine⟨e3,?_⟩;rw[List.drop_set_of_lt (by omega),e4]
/-- What shrink hands back, and leaves in memory: s is what is to be taken away. -/
def q7q (w:World) (b o:Nat) (l:List Nat) (s:Nat) (e:Ending) (w':World):Prop:=
 ∃ (cs:List Nat) (q:Nat),e= .returned (.bool (decide (0<q)))∧cs.length=l.length∧At w' b o cs∧GB b o l.length w w'∧val l+2^(64*l.length)*q=val cs+s
theorem q4a (w:World) (b o c:Nat) (vb:Value) (l m:List Nat) (f:Nat) (hf:f<2^64) (hz:At w b o l) (hc:l.length≤c) (hb:Sl w vb m) (hd:∀ b2 o2 n2 c2,vb= .slice (some ⟨b2,o2,none⟩) n2 c2→m≠[]→b2≠b) (hlen:m.length≤l.length) (hll:l.length≤1048000):
  Calls Tryz.prog 182 #[.slice (some ⟨b,o,none⟩) l.length c,vb,.int .u64 (f:Int)] w (q7q w b o l (f*val m)):=by
 have aN:=hz.ok;have fO:=hb.1;obtain⟨pb,cb,rfl,hcb,hrb⟩:=q0n hb;have HB:Hid _:=hrb;have HZ:Hid _:=hz;have HD:Hid _:=hd;have HF:Hid _:=hf;clear hrb hb hz hd hf;generalize hn:l.length=n at *;generalize hj:m.length=j at *;have HN:Hid _:=hn;have HJ:Hid _:=hj;clear hn hj;have KM:Hid _:=fun x y hx hy w=>Tryz.bits_Mul64 x y hx hy w;go_enter Tryz.func182,Tryz.ntmps182;go_wp2_with fail
 go_loopw [7,8,15] (fun vc vd vk wr=>∃ (k g d:Nat) (cs:List Nat),k≤n∧vk= .int .i64 k∧vc= .int .u64 g∧vd= .int .u64 d∧g≤2^64-2∧d≤1∧cs.length=n∧cs.drop k=l.drop k∧At wr b o cs∧GB b o n w wr∧val (l.take k)+2^(64*k)*(g+d)=val (cs.take k)+f*val (m.take k)) (fun _ _ vk _=>n-(intOf vk).toNat)
 case atStart=>exact⟨0,0,0,l,Nat.zero_le _,rfl,rfl,rfl,by omega,by omega,HN.out,rfl,HZ.out,GB.refl _ _ _ _ HZ.out.hb,by simp [val]⟩
 case round=>
  obtain⟨k,g,d,cs,hk,rfl,rfl,rfl,hg,hd,hcs,hst,hown,hG,hval⟩:=hrel;have HC:Hid _:=hcs;have HO:Hid _:=hown;have HG:Hid _:=hG;have wU:Hid _:=hg;have hgi:(g:Int)≤18446744073709551614:=by omega
  have hdi:(d:Int)≤1:=by omega
  by_cases hkn:k<n
  ·have hx:=q05 aN k;have hy:=q05 fO k;have q1:=fun r=>q4x (r:=r) hkn hcs HN.out hst;have Q1:Hid _:=fun r=>(q1 r).2;have q0:=(q1 0).1;have Q3:Hid _:=fun (c' d' r:Nat)=>q5C (c':=c') (d':=d') (r:=r) hkn hcs hval;have hcell:=hown.row k (by omega);have hfree:=hown.free k (by omega);rw[q0] at hcell;clear q1 q0 hval hst hown hcs;by_cases hkj:k<j
   ·obtain⟨b2,o2,rfl,hB2,hc2'⟩:=HB.out k hkj;have hne:=HD.out b2 o2 _ _ rfl (fun e=>by have h:=HJ.out;rw[e,List.length_nil] at h;omega);have hc2:=(HG.out.other hB2 hne).trans hc2';clear hc2' hB2 hne hG;generalize l.getD k 0=x at *;generalize m.getD k 0=y at *;obtain⟨hi,lo,a,c1,e1,e2,e3,e4,h1,h2,h3,h4,h5,h6⟩:=q99 y f g hy HF.out wU.out;obtain⟨r,d',e5,e6,h7,h8,h9⟩:=q6w x a d hx h3 hd;have hadd:=q3i lo g 0 (by omega);have hsub:=q7j x a d hd;have Ew:=fun w=>KM.out y f hy HF.out w;rw[show (18446744073709551616:Nat)=2^64 from rfl] at hadd hsub;rw[show ((0:Nat):Int)=0 from rfl,e3,e4] at hadd;rw[e5,e6] at hsub;have q3:=Q3.out (c1+hi) d' r (by rw[h6];omega);have Q2:Hid _:=Q1.out r;have Kv:Hid (∀ w:World,Calls Tryz.prog 191 #[.int .u64 y,.int .u64 f] w fun e w'=>e= .returned (.tuple #[.int .u64 (hi:Int),.int .u64 (lo:Int)])∧w'=w):=fun w=>(Ew w).mono (by rintro e w' ⟨rfl,rfl⟩;exact⟨by rw[← e1,← e2],rfl⟩);clear Q3 Q1 Ew e1 e2 e3 e4 e5 e6 h6 h9 hx hy;have Q3:Hid _:=q3;have HR:Hid _:=h7;have hd1:=h8;have Td:(c1:Int)+hi≤18446744073709551614:=by omega
    clear q3 h7 h1 h2 h3 h4 h8 hg;go_wp2_with fail;refine Calls.mono (P:=Tryz.prog) (Kv.out wr) ?_;rintro e w1 ⟨rfl,rfl⟩;go_wp2_with fail
    go_roundw
    case rel=>exact⟨k+1,c1+hi,d',cs.set k r,by omega,by go_num,by go_num,rfl,by omega,hd1,by rw[List.length_set];exact HC.out,Q2.out,At.set HO.out k r (by rw[HC.out];omega) HR.out,GB.set HG.out hkn _,Q3.out⟩
    case measure=>simp only[intOf];omega
   ·have hy0:m.getD k 0=0:=by rw[List.getD_eq_getElem?_getD,List.getElem?_eq_none (by rw[HJ.out];omega)];rfl
    rw[hy0] at Q3;clear hy hy0 hG;generalize l.getD k 0=x at *;obtain⟨r,d',e5,e6,h7,h8,h9⟩:=q6w x g d hx (by omega) hd;have hsub:=q7j x g d hd;rw[show (18446744073709551616:Nat)=2^64 from rfl,e5,e6] at hsub;have q3:=Q3.out 0 d' r (by omega);have Q2:Hid _:=Q1.out r;clear Q3 Q1 e5 e6 h9 hx;have Q3:Hid _:=q3;have HR:Hid _:=h7;have hd1:=h8;clear q3 h7 h8 hg;go_wp2_with fail
    go_roundw
    case rel=>exact⟨k+1,0,d',cs.set k r,by omega,by go_num,rfl,rfl,by omega,hd1,by rw[List.length_set];exact HC.out,Q2.out,At.set HO.out k r (by rw[HC.out];omega) HR.out,GB.set HG.out hkn _,Q3.out⟩
    case measure=>simp only[intOf];omega
  ·obtain rfl:k=n:=by omega
   have hv:val l+2^(64*k)*(g+d)=val cs+f*val m:=by
    rw[List.take_of_length_le (by rw[HN.out];omega),List.take_of_length_le (by rw[hcs];omega),List.take_of_length_le (by rw[HJ.out];omega)] at hval;exact hval
   have HV:Hid _:=hv;have wW:=HN.out;have sU:Hid (l.length=k):=wW;have ht:decide (0<(g:Int)+d)=decide (0<g+d):=by congr 1;apply propext;omega
   have HT:Hid _:=ht;clear hv hval hst hown hG hcs wW hg ht;go_wp2_with fail;go_ret;refine⟨cs,g+d,?_,by rw[HC.out,sU.out],HO.out,by rw[sU.out];exact HG.out,by rw[sU.out];exact HV.out⟩;show Ending.returned (Value.bool (decide (0<(g:Int)+d)))=_;rw[HT.out]
theorem q5A (y w g x:Nat) (hy:y<2^64) (hw:w<2^64) (hg:g<2^64) (hx:x<2^64):
  ∃ hi lo a c1 r c2,y*w/2^64=hi∧y*w%2^64=lo∧(lo+g+0)%2^64=a∧(lo+g+0)/2^64=c1∧(x+a+0)%2^64=r∧(x+a+0)/2^64=c2∧
   hi+c1<2^64∧r<2^64∧hi+c1+c2<2^64∧y*w+g+x=r+2^64*(hi+c1+c2):=by
 have h1:y*w≤(2^64-1)*(2^64-1):=Nat.mul_le_mul (by omega) (by omega);generalize y*w=p at *;refine⟨_,_,_,_,_,_,rfl,rfl,rfl,rfl,rfl,rfl,?_,?_,?_,?_⟩<;>omega
/-- One step of a gathering in place. -/
theorem q5T {l cs m:List Nat} {k g g' n r w:Nat} (hk:k<n) (hcs:cs.length=n)
  (h:val (cs.take k)+2^(64*k)*g=val (l.take k)+w*val (m.take k)) (hw:m.getD k 0*w+g+l.getD k 0=r+2^64*g'):
  val ((cs.set k r).take (k+1))+2^(64*(k+1))*g'=val (l.take (k+1))+w*val (m.take (k+1)):=by
 rw[q0j (by omega),q07 l,q07 m];generalize l.getD k 0=x at *;generalize m.getD k 0=y at *;rw[show 64*(k+1)=64*k+64 from by omega,Nat.pow_add,Nat.mul_assoc,Nat.add_assoc,← Nat.mul_add,← hw];have e:w*(2^(64*k)*y)=2^(64*k)*(y*w):=by rw[Nat.mul_comm y w,Nat.mul_left_comm]
 rw[Nat.mul_add w,e];simp only[Nat.mul_add] at h ⊢;omega
/-- What gather hands back, and leaves in memory: s is the sum of what was there and what is added. -/
def q7g (w:World) (b o:Nat) (l:List Nat) (s:Nat) (e:Ending) (w':World):Prop:=
 ∃ (cs:List Nat) (q:Nat),e= .returned (.int .u64 (q:Int))∧q<2^64∧cs.length=l.length∧At w' b o cs∧GB b o l.length w w'∧val cs+2^(64*l.length)*q=s
theorem q8O (w:World) (b o c:Nat) (vb:Value) (l m:List Nat) (f:Nat) (hf:f<2^64) (hz:At w b o l) (hc:l.length≤c) (hb:Sl w vb m) (hd:∀ b2 o2 n2 c2,vb= .slice (some ⟨b2,o2,none⟩) n2 c2→m≠[]→b2≠b) (hlen:m.length=l.length) (hll:l.length≤1048000):
  Calls Tryz.prog 131 #[.slice (some ⟨b,o,none⟩) l.length c,vb,.int .u64 (f:Int)] w (q7g w b o l (val l+f*val m)):=by
 have aN:=hz.ok;have fO:=hb.1;obtain⟨pb,cb,rfl,hcb,hrb⟩:=q0n hb;have HB:Hid _:=hrb;have HZ:Hid _:=hz;have HD:Hid _:=hd;have HF:Hid _:=hf;clear hrb hb hz hd hf;generalize hn:l.length=n at *;have HN:Hid _:=hn;have HJ:Hid _:=hlen;rw[hlen] at HB HD hcb ⊢;clear hn hlen;have KM:Hid _:=fun x y hx hy w=>Tryz.bits_Mul64 x y hx hy w;go_enter Tryz.func131,Tryz.ntmps131;go_wp2_with fail
 go_loopw [7,15] (fun vc vk wr=>∃ (k g:Nat) (cs:List Nat),k≤n∧vk= .int .i64 k∧vc= .int .u64 g∧g<2^64∧cs.length=n∧cs.drop k=l.drop k∧At wr b o cs∧GB b o n w wr∧val (cs.take k)+2^(64*k)*g=val (l.take k)+f*val (m.take k)) (fun _ vk _=>n-(intOf vk).toNat)
 case atStart=>exact⟨0,0,l,Nat.zero_le _,rfl,rfl,by omega,HN.out,rfl,HZ.out,GB.refl _ _ _ _ HZ.out.hb,by simp [val]⟩
 case round=>
  obtain⟨k,g,cs,hk,rfl,rfl,hg,hcs,hst,hown,hG,hval⟩:=hrel;have HC:Hid _:=hcs;have HO:Hid _:=hown;have HG:Hid _:=hG;have wU:Hid _:=hg;by_cases hkn:k<n
  ·have hx:=q05 aN k;have hy:=q05 fO k;have q1:=fun r=>q4x (r:=r) hkn hcs HN.out hst;have Q1:Hid _:=fun r=>(q1 r).2;have q0:=(q1 0).1;have Q3:Hid _:=fun (g' r:Nat)=>q5T (g':=g') (r:=r) hkn hcs hval;have hcell:=hown.row k (by omega);have hfree:=hown.free k (by omega);rw[q0] at hcell;clear q1 q0 hval hst hown hcs;obtain⟨b2,o2,rfl,hB2,hc2'⟩:=HB.out k hkn;have hne:=HD.out b2 o2 _ _ rfl (fun e=>by have h:=HJ.out;rw[e,List.length_nil] at h;omega);have hc2:=(HG.out.other hB2 hne).trans hc2';clear hc2' hB2 hne hG;generalize l.getD k 0=x at *;generalize m.getD k 0=y at *;obtain⟨hi,lo,a,c1,r,c2,e1,e2,e3,e4,e5,e6,h1,h2,h3,h4⟩:=q5A y f g x hy HF.out wU.out hx;have hadd:=q3i lo g 0 (by omega);have wV:=q3i x a 0 (by omega);have Ew:=fun w=>KM.out y f hy HF.out w;rw[show (18446744073709551616:Nat)=2^64 from rfl] at hadd wV;rw[show ((0:Nat):Int)=0 from rfl,e3,e4] at hadd;rw[show ((0:Nat):Int)=0 from rfl,e5,e6] at wV;have q3:=Q3.out (hi+c1+c2) r h4;have Q2:Hid _:=Q1.out r;have Kv:Hid (∀ w:World,Calls Tryz.prog 191 #[.int .u64 y,.int .u64 f] w fun e w'=>e= .returned (.tuple #[.int .u64 (hi:Int),.int .u64 (lo:Int)])∧w'=w):=fun w=>(Ew w).mono (by rintro e w' ⟨rfl,rfl⟩;exact⟨by rw[← e1,← e2],rfl⟩);clear Q3 Q1 Ew e1 e2 e3 e4 e5 e6 h4 hx hy;have Q3:Hid _:=q3;have HR:Hid _:=h2;have H3:Hid _:=h3;have Nc:(hi:Int)+c1≤18446744073709551615:=by omega
   have Ur:(hi:Int)+c1+c2≤18446744073709551615:=by omega
   clear q3 h1 h2 h3 hg;go_wp2_with fail;refine Calls.mono (P:=Tryz.prog) (Kv.out wr) ?_;rintro e w1 ⟨rfl,rfl⟩;go_wp2_with fail
   go_roundw
   case rel=>exact⟨k+1,hi+c1+c2,cs.set k r,by omega,by go_num,by go_num,H3.out,by rw[List.length_set];exact HC.out,Q2.out,At.set HO.out k r (by rw[HC.out];omega) HR.out,GB.set HG.out hkn _,Q3.out⟩
   case measure=>simp only[intOf];omega
  ·obtain rfl:k=n:=by omega
   have hv:val cs+2^(64*k)*g=val l+f*val m:=by
    rw[List.take_of_length_le (by omega),List.take_of_length_le (by rw[HN.out];omega),List.take_of_length_le (by rw[HJ.out];omega)] at hval;exact hval
   have HV:Hid _:=hv;have wW:=HN.out;have sU:Hid (l.length=k):=wW;clear hv hval hst hown hG hcs wW hg;go_wp2_with fail;go_ret;exact⟨cs,g,rfl,wU.out,by rw[HC.out,sU.out],HO.out,by rw[sU.out];exact HG.out,by rw[sU.out];exact HV.out⟩
theorem getD_drop (l:List Nat) (i j:Nat):(l.drop i).getD j 0=l.getD (i+j) 0:=by
 rw[List.getD_eq_getElem?_getD,List.getD_eq_getElem?_getD,List.getElem?_drop]
theorem getD_take {l:List Nat} {n j:Nat} (h:j<n):(l.take n).getD j 0=l.getD j 0:=by
 rw[List.getD_eq_getElem?_getD,List.getD_eq_getElem?_getD,List.getElem?_take_of_lt h]
theorem q4B {l m:List Nat} {j:Nat} (h:j<l.length):(l++m).getD j 0=l.getD j 0:=by
 rw[List.getD_eq_getElem?_getD,List.getD_eq_getElem?_getD,List.getElem?_append_left h]
theorem q3J {l m:List Nat} {j:Nat} (h:l.length≤j):(l++m).getD j 0=m.getD (j-l.length) 0:=by
 rw[List.getD_eq_getElem?_getD,List.getD_eq_getElem?_getD,List.getElem?_append_right h]
/-- A part of a row of our own. -/
theorem At.sub {w:World} {b o:Nat} {l:List Nat} (h:At w b o l) {i n:Nat} (hn:i+n≤l.length):At w b (o+i) ((l.drop i).take n):=by
 have hl:((l.drop i).take n).length=n:=by rw[List.length_take,List.length_drop];omega
 refine⟨q1t (q2v h.ok i) n,h.hb,fun j hj=> ?_,fun j hj=> ?_⟩
 ·rw[hl] at hj;rw[getD_take hj,getD_drop,Nat.add_assoc];exact h.row (i+j) (by omega)
 ·rw[hl] at hj;rw[Nat.add_assoc];exact h.free (i+j) (by omega)
/-- A row of our own, a part of which a call has written. -/
theorem At.join {w w':World} {b o:Nat} {l cs:List Nat} {i n:Nat} (h:At w b o l) (g:GB b (o+i) n w w') (hc:At w' b (o+i) cs) (hl:cs.length=n) (hn:i+n≤l.length):
  At w' b o (l.take i++(cs++l.drop (i+n))):=by
 have ht:(l.take i).length=i:=by rw[List.length_take];omega
 refine⟨okw_append.2 ⟨q1t h.ok i,okw_append.2 ⟨hc.ok,q2v h.ok _⟩⟩,Nat.lt_of_lt_of_le h.hb g.size,fun j hj=> ?_,fun j hj=> ?_⟩
 ·rw[List.length_append,List.length_append,ht,hl,List.length_drop] at hj;by_cases h1:j<i
  ·rw[q4B (by omega),getD_take h1,g.cell _ (by omega)];exact h.row j (by omega)
  ·rw[q3J (by omega),ht];by_cases h2:j-i<n
   ·rw[q4B (by omega)];have:=hc.row (j-i) (by omega)
    rwa[show o+i+(j-i)=o+j from by omega] at this
   ·rw[q3J (by omega),getD_drop,hl,show i+n+(j-i-n)=j from by omega,g.cell _ (by omega)];exact h.row j (by omega)
 ·rw[List.length_append,List.length_append,ht,hl,List.length_drop] at hj;rw[g.frozen];exact h.free j (by omega)
theorem q9a {l cs:List Nat} {i n:Nat} (hl:cs.length=n) (hn:i≤l.length):
  val (l.take i++(cs++l.drop (i+n)))=val (l.take i)+2^(64*i)*(val cs+2^(64*n)*val (l.drop (i+n))):=by
 rw[val_append,val_append,List.length_take,Nat.min_eq_left hn,hl]
theorem q3B (l:List Nat) (i n:Nat) (hn:i+n≤l.length):val l=val (l.take i)+2^(64*i)*(val ((l.drop i).take n)+2^(64*n)*val (l.drop (i+n))):=by
 rw[q0B l i (by omega),q0B (l.drop i) n (by rw[List.length_drop];omega),List.drop_drop]
theorem q5Q:(Tryz.prog.info? 85).map (fun i=>(i.zero,i.size,i.bytes))=some (some (.int .u64 0),1,8):=by kernel_rfl
/-- 'make(nat, n)', in every world. -/
theorem q1e (n:Nat) (hn:n≤1048576) (w:World):(Instr.makeSlice 26 (.int .i64 (n:Int)) (.int .i64 (n:Int))).run Tryz.prog w= .ok (.slice (some ⟨w.heap.size,0,none⟩) n n) (w.alloc (.cells (madeCells #[.int .u64 0] n) 85)):=
 run_make_row' 26 85 (.int .u64 0) 8 Tryz.underlying26 q5Q rfl .i64 .i64 n (by omega) (by omega) w
theorem q43 (n:Nat):val (List.replicate n 0)=0:=by
 induction n with
 |zero=>rfl
 |succ n ih=>rw[List.replicate_succ];simp [val,ih]
/-- One step of a product. -/
theorem q6M {zs cs l:List Nat} {i j n q x vb:Nat} (hi:i<n) (hzl:zs.length=n+j) (hz:zs.drop (i+j)=List.replicate (n-i) 0) (hv:val zs=val (l.take i)*vb) (hx:l.getD i 0=x)
  (hcl:cs.length=j) (hcs:val cs+2^(64*j)*q=val ((zs.drop i).take j)+x*vb):
  ((zs.take i++(cs++zs.drop (i+j))).set (i+j) q).length=n+j∧
  ((zs.take i++(cs++zs.drop (i+j))).set (i+j) q).drop (i+1+j)=List.replicate (n-(i+1)) 0∧
  val ((zs.take i++(cs++zs.drop (i+j))).set (i+j) q)=val (l.take (i+1))*vb:=by
 have ht:(zs.take i).length=i:=by rw[List.length_take];omega
 have hlen:(zs.take i++(cs++zs.drop (i+j))).length=n+j:=by rw[List.length_append,List.length_append,ht,hcl,List.length_drop,hzl];omega
 have e1:n-i=(n-(i+1))+1:=by omega
 rw[e1,List.replicate_succ] at hz;have e2:(zs.take i++(cs++zs.drop (i+j))).set (i+j) q=zs.take i++(cs++(q::List.replicate (n-(i+1)) 0)):=by
  rw[List.set_append_right _ _ (by omega),ht,List.set_append_right _ _ (by omega),hcl,hz,show i+j-i-j=0 from by omega];rfl
 refine⟨by rw[List.length_set];exact hlen,?_,?_⟩
 ·rw[e2,show zs.take i++(cs++(q::List.replicate (n-(i+1)) 0))=(zs.take i++cs++[q])++List.replicate (n-(i+1)) 0 from by simp];exact List.drop_left' (by rw[List.length_append,List.length_append,ht,hcl];simp;omega)
 ·rw[e2,val_append,val_append,ht,hcl,q07,hx,Nat.add_mul,← hv,q3B zs i j (by omega),hz];simp only[val,q43,Nat.mul_zero,Nat.add_zero];rw[hcs,Nat.mul_add,Nat.mul_assoc];omega
/-- A row of our own, trimmed. -/
theorem q0G {w:World} {b n:Nat} {cs:List Nat} (h:Own w b cs) (hc:cs.length=n) (hn:n≤1048576):
  Calls Tryz.prog 132 #[.slice (some ⟨b,0,none⟩) n n] w (q0e w (val cs)):=by
 subst hc;exact trim_c _ _ _ (h.sl _ (Nat.le_refl _)) hn
/-- A word that is 0 adds nothing. -/
theorem q75 {zs l:List Nat} {i j n vb:Nat} (hz:zs.drop (i+j)=List.replicate (n-i) 0) (hv:val zs=val (l.take i)*vb) (hx:l.getD i 0=0):
  zs.drop (i+1+j)=List.replicate (n-(i+1)) 0∧val zs=val (l.take (i+1))*vb:=by
 refine⟨?_,by rw[q07,hx,Nat.mul_zero,Nat.add_zero];exact hv⟩;rw[show i+1+j=i+j+1 from by omega,← List.drop_drop,hz,List.drop_replicate]
 congr 1
/-- The second one's words are gone along. -/
theorem q6P (w:World) (va vb:Value) (l m:List Nat) (hl:Sl w va l) (hm:Sl w vb m) (hll:l.length+m.length≤1048000):
  Calls Tryz.prog 58 #[vb,va] w (q0e w (val l*val m)):=by
 have aN:=hl.1;have HM:Hid _:=hm;obtain⟨pa,ca,rfl,dL,hra⟩:=q0n hl;obtain⟨pb,cb,rfl,hcb,hrb⟩:=q0n hm;have HA:Hid _:=hra;have HB:Hid _:=hrb;clear hra hrb hl hm;generalize hn:l.length=n at *;generalize hj:m.length=j at *;have HN:Hid _:=hn;have HJ:Hid _:=hj;clear hn hj;have hmk:=q1e (n+j) (by omega);rw[show ((n+j:Nat):Int)=(j:Int)+n from by omega] at hmk;go_enter Tryz.func58,Tryz.ntmps58;go_wp2_with fail;have wD:Hid _:=Own.at (q0C w (n+j) 85);have hgm:G w (w.alloc (.cells (madeCells #[.int .u64 0] (n+j)) 85)):=(G.refl _).alloc _;generalize w.alloc (.cells (madeCells #[.int .u64 0] (n+j)) 85)=w0 at *;obtain⟨bz,hbz⟩:∃ bz,bz=w.heap.size:=⟨_,rfl⟩;rw[← hbz] at wD ⊢;have hle:w.heap.size≤bz:=by omega
 clear hbz hmk
 go_loopw [16] (fun vk wr=>∃ (k:Nat) (zs:List Nat),k≤n∧vk= .int .i64 k∧zs.length=n+j∧zs.drop (k+j)=List.replicate (n-k) 0∧val zs=val (l.take k)*val m∧At wr bz 0 zs∧G w wr) (fun vk _=>n-(intOf vk).toNat)
 case atStart=>exact⟨0,List.replicate (n+j) 0,Nat.zero_le _,rfl,by simp,by simp,by simp [val,q43],wD.out,hgm⟩
 case round=>
  obtain⟨k,zs,hk,rfl,hzl,hzd,hval,hown,hG⟩:=hrel;by_cases hkn:k<n
  ·obtain⟨b1,o1,rfl,hB1,hc1'⟩:=HA.out k hkn;have hc1:=hG.cell (p:=⟨b1,o1+k,none⟩) hB1 hc1';have hx:=q05 aN k;have HS:=fun q (cs:List Nat) h1 h2=>q6M (zs:=zs) (cs:=cs) (l:=l) (x:=l.getD k 0) (q:=q) hkn hzl hzd hval rfl h1 h2;have HSub:=At.sub (i:=k) (n:=j) hown (by omega);by_cases hx0:l.getD k 0=0
   ·obtain⟨hz1,hv1⟩:=q75 hzd hval hx0;rw[hx0] at hc1;have HK:Hid _:=(⟨k+1,zs,by omega,by go_num,hzl,hz1,hv1,hown,hG⟩:∃ (k1:Nat) (zs:List Nat),k1≤n∧Value.int .i64 ((k:Int)+1)= .int .i64 k1∧zs.length=n+j∧zs.drop (k1+j)=List.replicate (n-k1) 0∧val zs=val (l.take k1)*val m∧At wr bz 0 zs∧G w wr);clear HSub HS hx hx0 hown hzd hval hzl hc1' hB1 hG hz1 hv1;go_wp2_with fail
    go_roundw
    case rel=>exact HK.out
    case measure=>simp only[intOf];omega
   have hxp:decide (0<l.getD k 0)=true:=decide_eq_true (by omega);clear hx0;generalize l.getD k 0=x at *;have hpl:((zs.drop k).take j).length=j:=by rw[List.length_take,List.length_drop];omega
   have hmz:∀ b2 o2 n2 c2,Value.slice pb j cb= .slice (some ⟨b2,o2,none⟩) n2 c2→m≠[]→b2≠bz:=by
    intro b2 o2 n2 c2 e hne;rcases HM.out.2 with ⟨h,-⟩|⟨b3,o3,c3,e3,-,h3,-⟩
    ·exact absurd h hne
    ·rw[e] at e3;injection e3 with e4;injection e4 with e5;injection e5 with e6;omega
   have O5:Sl wr (.slice pb j cb) m:=by
    have h0:Sl w (.slice pb j cb) m:=⟨HM.out.1,by rw[HJ.out];exact HM.out.2⟩;exact h0.G hG
   rw[Nat.zero_add] at HSub;have HK:Hid _:=q8O wr bz k (n+j-k) (.slice pb j cb) _ m x hx HSub (by rw[hpl];omega) O5 hmz (by rw[hpl,HJ.out]) (by rw[hpl];omega);rw[hpl] at HK;have HS2:Hid _:=HS;have FN:Hid _:=hpl;have HO:Hid _:=hown;have HZ:Hid _:=hzl;have wU:Hid _:=hG;clear HS hmz O5 HSub hpl hx hown hzd hval hzl hc1' hB1 hG;go_wp2_with fail;refine Calls.mono (P:=Tryz.prog) HK.out ?_;rintro e w1 ⟨cs,q,rfl,hq,hcl,hAt,fD,hcv⟩;rw[FN.out] at fD hcl;have Gp:=At.join (o:=0) (i:=k) (n:=j) HO.out (by rw[Nat.zero_add];exact fD) (by rw[Nat.zero_add];exact hAt) hcl (by rw[HZ.out];omega);have hT:=HS2.out q cs hcl (by rw[FN.out] at hcv;exact hcv);have Ev:=GB.fresh wU.out fD hle;have hjl:(zs.take k++(cs++zs.drop (k+j))).length=n+j:=by have:=hT.1;rwa[List.length_set] at this
   generalize zs.take k++(cs++zs.drop (k+j))=us at *;have hcell:=Gp.row (k+j) (by omega);have hfree:=Gp.free (k+j) (by omega);have hset:=At.set Gp (k+j) q (by omega) hq;rw[Nat.zero_add] at hcell hfree hset;generalize us.getD (k+j) 0=u at *;have HT:Hid _:=hT;have Ku:Hid _:=hset;have zT:Hid _:=Ev;clear hT hset Ev Gp hcv hAt fD hcl hjl hq HK HO HS2;go_wp2_with fail
   go_roundw
   case rel=>exact⟨k+1,us.set (k+j) q,by omega,by go_num,HT.out.1,HT.out.2.1,HT.out.2.2,Ku.out,zT.out.setCell (p:=⟨bz,k+j,none⟩) hle _⟩
   case measure=>simp only[intOf];omega
  ·obtain rfl:k=n:=by omega
   have hv:val zs=val l*val m:=by rw[hval,List.take_of_length_le (by rw[HN.out];omega)]
   have hT:Hid _:=q0G hown.own hzl (by omega);rw[hv] at hT;have wU:Hid _:=hG;clear hv hval hzd hzl hown hG;go_wp2_with fail;refine Calls.mono (P:=Tryz.prog) hT.out ?_;rintro e w1 ⟨v1,rfl,hb1,hn1⟩;go_wp2_with fail;go_ret;exact⟨v1,rfl,G.trans wU.out hb1,hn1⟩
theorem q2a (w:World) (va vb:Value) (a b K:Nat) (hK:K≤500000) (ha:Num w va a) (hb:Num w vb b) (ha2:a<2^(64*K)) (hb2:b<2^(64*K)):
  Calls Tryz.prog 58 #[va,vb] w (q0e w (a*b)):=by
 obtain⟨l,hl,hcl,rfl⟩:=ha;obtain⟨m,hm,hcm,rfl⟩:=hb;have hll:=q06 hcl ha2;have pR:=q06 hcm hb2;rw[Nat.mul_comm];exact q6P w vb va m l hm hl (by omega)
end Go.Proofs.YtbfjihniphldaaaGreatDoor.EN
