/- What is proved here: contracts of package exact: left, over this seat's translation.
What is proved here: contracts of package exact: window, over this seat's translation.
What is proved here: contracts of package exact: right, over this seat's translation.
What is proved here: contracts of package exact: size, over this seat's translation.
What is proved here: contracts of package exact: twos, over this seat's translation.
What is proved here: the library's quotient of two words by one: its arithmetic (no program).
What is proved here: contracts of package exact: the library's quotient of two words by one, over this seat's translation.
What is proved here: contracts of package exact: divideWord, over this seat's translation.
What is proved here: contracts of package exact: digit, over this seat's translation.
What is proved here: long division in words of 64 bits, its arithmetic (no program). -/
import Derived.Test.YtbfjihniphldaaaGreatDoorC17
import Derived.Test.YtbfjihniphldaaaGreatDoorC6
import Derived.Test.YtbfjihniphldaaaGreatDoorC1
import Derived.Test.YtbfjihniphldaaaGreatDoorC11
import Derived.Test.YtbfjihniphldaaaGreatDoorC14
namespace Go.Proofs.YtbfjihniphldaaaGreatDoor.EN
open Go.ChangeShapes Go.WideShapes Go.ChangeAt Go.RowKit
theorem q6t (n t:Nat):(List.replicate n 0).getD t 0=0:=by
 rw[List.getD_eq_getElem?_getD,List.getElem?_replicate];split<;>rfl
theorem getD_set_ne {l:List Nat} {i t x:Nat} (h:i≠t):(l.set i x).getD t 0=l.getD t 0:=by
 rw[List.getD_eq_getElem?_getD,List.getD_eq_getElem?_getD,List.getElem?_set_ne h]
theorem q7G (x y s:Nat) (hx:x<2^64) (hs:s≤63) (hy:y<2^s):∃ v lo hi:Nat,
  IntKind.u64.wrap ((x:Int)*2^s)=v∧bits .or .u64 (y:Int) (v:Int)=lo∧x/2^(64-s)=hi∧lo<2^64∧hi<2^s∧hi<2^64∧y+x*2^s=lo+2^64*hi:=by
 have hp:2^s≤2^63:=Nat.pow_le_pow_right (by omega) hs;have hp0:=Nat.two_pow_pos s;have e1:x*2^s<2^64*2^s:=Nat.mul_lt_mul_of_pos_right hx hp0;have e0:2^64=2^(64-s)*2^s:=by rw[← Nat.pow_add];congr 1;omega
 have e2:x*2^s%2^64=(x%2^(64-s))*2^s:=by rw[e0,Nat.mul_mod_mul_right]
 have e7:x/2^(64-s)=x*2^s/2^64:=by rw[e0,Nat.mul_div_mul_right _ _ hp0]
 have e3:(x%2^(64-s))*2^s+2^s≤2^64:=by
  have h1:x%2^(64-s)<2^(64-s):=Nat.mod_lt _ (Nat.two_pow_pos _);have h2:(x%2^(64-s)+1)*2^s≤2^(64-s)*2^s:=Nat.mul_le_mul_right _ h1;rw[← Nat.pow_add,show 64-s+s=64 from by omega,Nat.add_mul,Nat.one_mul] at h2;exact h2
 have e4:x*2^s%2^64%2^s=0:=by rw[e2];exact Nat.mul_mod_left _ _
 have e5:x*2^s/2^64<2^s:=Nat.div_lt_of_lt_mul e1;have e6:((x:Int)*2^s)=((x*2^s:Nat):Int):=by push_cast;rfl
 rw[← e2] at e3;rw[e6,e7];clear e0 e1 e2 e6 e7;generalize hg:x*2^s=v at *;generalize hps:2^s=ps at *;refine⟨v%2^64,v%2^64+y,v/2^64,?_,?_,rfl,by omega,by omega,by omega,by omega⟩
 ·rw[IntKind.wrap_u64];omega
 ·rw[u64_or_nat _ _ (by omega) (by omega),Nat.or_comm];subst hps;rw[nat_join s _ y e4 hy]
/-- One step of a shift to the left. -/
theorem left_step {cs l:List Nat} {i q s n lo hi:Nat} (hp:i+q+1<cs.length) (hn:n=64*q+s)
  (hv:val (cs.take (i+q+1))=val (l.take i)*2^n) (he:cs.getD (i+q) 0+l.getD i 0*2^s=lo+2^64*hi):
  val (((cs.set (i+q) lo).set (i+q+1) hi).take (i+1+q+1))=val (l.take (i+1))*2^n:=by
 rw[show i+1+q+1=i+q+1+1 from by omega,q0j (by rw[List.length_set];exact hp),q0j (by omega),q07 l,Nat.add_mul,← hv,q07 cs];rw[show 2^(64*i)*l.getD i 0*2^n=2^(64*(i+q))*(l.getD i 0*2^s) from by
  rw[hn,Nat.mul_add 64 i q,Nat.pow_add,Nat.pow_add];rw[Nat.mul_assoc,Nat.mul_assoc,Nat.mul_left_comm (l.getD i 0)]]
 have h3:2^(64*(i+q))*(cs.getD (i+q) 0+l.getD i 0*2^s)=2^(64*(i+q))*(lo+2^64*hi):=by rw[he]
 rw[Nat.mul_add (2^(64*(i+q))),Nat.mul_add (2^(64*(i+q)))] at h3;rw[show 64*(i+q+1)=64*(i+q)+64 from by omega,Nat.pow_add,Nat.mul_assoc];omega
theorem q21 (w:World) (va:Value) (a n K:Nat) (hK:K≤500000) (hn:n≤10000000) (ha:Num w va a) (ha2:a<2^(64*K)):
  Calls Tryz.prog 112 #[va,.int .i64 (n:Int)] w (q0e w (a*2^n)):=by
 by_cases hn0:n=0
 ·subst hn0;rw[show ((0:Nat):Int)=0 from rfl];have HA:Hid (Num w va a):=ha;clear ha ha2;go_enter Tryz.func112,Tryz.ntmps112;go_wp2_with fail;go_ret;exact⟨va,rfl,G.refl _,(by rw[Nat.pow_zero,Nat.mul_one];exact HA.out)⟩
 have Kt:((n:Int)==0)=false:=by simp;omega
 clear hn0;obtain⟨l,hl,hcl,rfl⟩:=ha;have hll:=q06 hcl ha2;clear ha2;have aN:=hl.1;obtain⟨pa,ca,rfl,dL,hra⟩:=q0n hl;have HA:Hid _:=hra;clear hra hl;generalize hln:l.length=j at *;have HN:Hid _:=hln;clear hln;have hd1:(n:Int)/64=((n/64:Nat):Int):=by omega
 have hd2:(n:Int)%64=((n%64:Nat):Int):=by omega
 have hnn:n=64*(n/64)+n%64:=by omega
 have hs:((n%64:Nat):Int)≤63:=by omega
 have hq:((n/64:Nat):Int)≤312500:=by omega
 generalize n/64=q at *;generalize n%64=s at *;have kP:Hid _:=hnn;have hnb:(n:Int)≤10000000:=by omega
 clear hnn hn;have hmk:=q1e (j+q+1) (by omega);rw[show ((j+q+1:Nat):Int)=(j:Int)+q+1 from by omega] at hmk;go_enter Tryz.func112,Tryz.ntmps112;go_wp2_with fail;rw[hd2]
 go_loopw [25] (fun vk wr=>∃ (i:Nat) (cs:List Nat),i≤j∧vk= .int .i64 i∧cs.length=j+q+1∧Own wr w.heap.size cs∧val (cs.take (i+q+1))=val (l.take i)*2^n∧cs.getD (i+q) 0<2^s∧(∀ t,i+q<t→cs.getD t 0=0)∧G w wr) (fun vk _=>j-(intOf vk).toNat)
 case atStart=>exact⟨0,List.replicate (j+q+1) 0,Nat.zero_le _,rfl,by simp,q0C w (j+q+1) 85,by rw[List.take_replicate,q43];simp [val],by rw[q6t];exact Nat.two_pow_pos _,fun t _=>q6t _ _,(G.refl _).alloc _⟩
 case round=>
  obtain⟨i,cs,hi,rfl,hcs,hown,hval,hlow,hup,hG⟩:=hrel;have HV:Hid _:=hval;have HC:Hid _:=hcs;have HO:Hid _:=hown;have HL:Hid _:=hlow;have HU:Hid _:=hup;clear hval hcs hown hlow hup;by_cases hin:i<j
  ·obtain⟨b1,o1,rfl,hB1,hc1'⟩:=HA.out i hin;have hx:=q05 aN i;have hc1:=hG.cell (p:=⟨b1,o1+i,none⟩) hB1 hc1';clear hc1' hB1;have ho:=Own.cell (w:=wr) (b:=w.heap.size) (l:=cs) (i:=i+q) HO.out (by rw[HC.out];omega);have hf:=Own.frozen (w:=wr) (b:=w.heap.size) (l:=cs) (i:=i+q) HO.out (by rw[HC.out];omega);have ho2:=Own.cell (w:=wr) (b:=w.heap.size) (l:=cs) (i:=i+q+1) HO.out (by rw[HC.out];omega);have hf2:=Own.frozen (w:=wr) (b:=w.heap.size) (l:=cs) (i:=i+q+1) HO.out (by rw[HC.out];omega);have hu:=HU.out (i+q+1) (by omega);rw[hu] at ho2;obtain⟨v,lo,hi2,hw1,hw2,hw3,hlo,hhi,hhi2,he⟩:=q7G _ _ s hx (by omega) HL.out;have Jg:Hid _:=hlo;have Jh:Hid _:=hhi;have Ji:Hid _:=hhi2;have HS:Hid _:=left_step (by rw[HC.out];omega) kP.out HV.out he;have qz:Hid _:=(show ((l.getD i 0:Nat):Int)/2^(64-s)=(hi2:Int) by rw[← hw3];push_cast;rfl);generalize l.getD i 0=x at *;generalize cs.getD (i+q) 0=z at *;have hwr:IntKind.i64.wrap ((i:Int)+q)=(i:Int)+q:=by rw[IntKind.wrap_i64];omega
   have hwn:((i:Int)+q).toNat=i+q:=by omega
   have hi1:(0:Int)≤(i:Int)+q:=by omega
   have hi3:(i:Int)+q<(j:Int)+q+1:=by omega
   clear hlo hhi hhi2 he hu;go_wp2_with fail;refine wp_region_any (by kernel_rfl) ?_;refine q0o (i:=0) (v:= ?_) rfl (by kernel_rfl) (by kernel_rfl) (by kernel_rfl) (fun _ _ _ h=>h) (Or.inl ⟨by rfl,?_⟩) ?_;rotate_left
   ·intro wq;first|(go_simp;done)|(go_simp;with_reducible rfl)
   try simp only[Act.put,List.setIfInBounds_toArray,List.set_cons_zero,List.set_cons_succ]
   refine q0o (i:=1) (v:= ?_) rfl (by kernel_rfl) (by kernel_rfl) (by kernel_rfl) (fun _ _ _ h=>h) (Or.inl ⟨by rfl,?_⟩) ?_;rotate_left
   ·intro wq;first|(go_simp;done)|(go_simp;with_reducible rfl)
   try simp only[Act.put,List.setIfInBounds_toArray,List.set_cons_zero,List.set_cons_succ]
   refine q0o (i:=2) (v:= ?_) rfl (by kernel_rfl) (by kernel_rfl) (by kernel_rfl) (fun _ _ _ h=>h) (Or.inl ⟨by rfl,?_⟩) ?_;rotate_left
   ·intro wq;first|(go_simp;done)|(go_simp;with_reducible rfl)
   try simp only[Act.put,List.setIfInBounds_toArray,List.set_cons_zero,List.set_cons_succ]
   refine q0o (i:=6) (v:= ?_) rfl (by kernel_rfl) (by kernel_rfl) (by kernel_rfl) (fun _ _ _ h=>h) (Or.inl ⟨by rfl,?_⟩) ?_;rotate_left
   ·intro wq;first|(go_simp;done)|(go_simp;with_reducible rfl)
   try simp only[Act.put,List.setIfInBounds_toArray,List.set_cons_zero,List.set_cons_succ]
   refine q0o (i:=7) (v:= ?_) rfl (by kernel_rfl) (by kernel_rfl) (by kernel_rfl) (fun _ _ _ h=>h) (Or.inl ⟨by rfl,?_⟩) ?_;rotate_left
   ·intro wq;first|(go_simp;done)|(go_simp;with_reducible rfl)
   try simp only[Act.put,List.setIfInBounds_toArray,List.set_cons_zero,List.set_cons_succ]
   refine q0o (i:=3) (v:= ?_) rfl (by kernel_rfl) (by kernel_rfl) (by kernel_rfl) (fun _ _ _ h=>h) (Or.inl ⟨by rfl,?_⟩) ?_;rotate_left
   ·intro wq;first|(go_simp;done)|(go_simp;with_reducible rfl)
   try simp only[Act.put,List.setIfInBounds_toArray,List.set_cons_zero,List.set_cons_succ]
   refine q0o (i:=8) (v:= ?_) rfl (by kernel_rfl) (by kernel_rfl) (by kernel_rfl) (fun _ _ _ h=>h) (Or.inl ⟨by rfl,?_⟩) ?_;rotate_left
   ·intro wq;first|(go_simp;done)|(go_simp;with_reducible rfl)
   try simp only[Act.put,List.setIfInBounds_toArray,List.set_cons_zero,List.set_cons_succ]
   refine wpAny_ready (rs:=[4]) (by kernel_rfl) (by simp) ?_;refine AllReady.cons rfl (fun K hK=> ?_) AllReady.nil;go_simp;refine hK _ _ ?_;clear K hK;refine wpAny_ready (rs:=[5]) (by kernel_rfl) (by simp) ?_;refine AllReady.cons rfl (fun K hK=> ?_) AllReady.nil;go_simp;refine hK _ _ ?_;clear K hK;refine wpAny_ready (rs:=[9]) (by kernel_rfl) (by simp) ?_;refine AllReady.cons rfl (fun K hK=> ?_) AllReady.nil;go_simp;refine hK _ _ ?_;clear K hK;refine wpAny_ready (rs:=[10]) (by kernel_rfl) (by simp) ?_;refine AllReady.cons rfl (fun K hK=> ?_) AllReady.nil;go_simp;refine hK _ _ ?_;clear K hK;refine wpAny_ready (rs:=[11]) (by kernel_rfl) (by simp) ?_;refine AllReady.cons rfl (fun K hK=> ?_) AllReady.nil;go_simp;refine hK _ _ ?_;clear K hK;refine wpAny_done (by kernel_rfl) ?_ _;go_wp2_with fail
   go_roundw
   case rel=>
    rw[qz.out];exact⟨i+1,(cs.set (i+q) lo).set (i+q+1) hi2,by omega,by go_num,by rw[List.length_set,List.length_set];exact HC.out,Own.grow (Own.set (Own.set HO.out (i+q) lo (by rw[HC.out];omega) Jg.out) (i+q+1) hi2 (by rw[List.length_set,HC.out];omega) Ji.out) (G.refl _).drew,HS.out,by rw[show i+1+q=i+q+1 from by omega,q0g (by rw[List.length_set,HC.out];omega)];exact Jh.out,fun t ht=>by rw[getD_set_ne (by omega),getD_set_ne (by omega)];exact HU.out t (by omega),((hG.setCell (p:=⟨w.heap.size,i+q,none⟩) (Nat.le_refl _) _).setCell (p:=⟨w.heap.size,i+q+1,none⟩) (Nat.le_refl _) _).drew⟩
   case measure=>simp only[intOf];omega
  ·obtain rfl:i=j:=by omega
   have hT:Hid _:=q0G (HO.out:Own wr w.heap.size cs) HC.out (by omega);have q2:val cs=val l*2^n:=by
    have h1:=HV.out
    rwa[List.take_of_length_le (by rw[HC.out];omega),List.take_of_length_le (by rw[HN.out];omega)] at h1
   rw[q2] at hT;clear q2;go_wp2_with fail;refine Calls.mono (P:=Tryz.prog) hT.out ?_;rintro e w1 ⟨v1,rfl,hb1,hn1⟩;go_wp2_with fail;go_ret;exact⟨v1,rfl,G.trans hG hb1,hn1⟩
theorem q65 (l:List Nat):val l=l.getD 0 0+2^64*val (l.drop 1):=by
 cases l with
 |nil=>rfl
 |cons d l=>rfl
theorem q1m {l:List Nat} (h:okw l) (i:Nat):val (l.drop i)=val l/2^(64*i):=by
 by_cases hi:i≤l.length
 ·have h1:=q0u h i hi;have h2:=q0B l i hi;rw[h2,Nat.add_mul_div_left _ _ (Nat.two_pow_pos _),Nat.div_eq_of_lt h1,Nat.zero_add]
 ·rw[List.drop_eq_nil_of_le (by omega)];have h1:=q0v h;have h2:2^(64*l.length)≤2^(64*i):=Nat.pow_le_pow_right (by omega) (by omega);rw[Nat.div_eq_of_lt (by omega)];rfl
/-- The 64 digits in twos from place n on. -/
theorem q6R {l:List Nat} (h:okw l) {n i s:Nat} (hn:n=64*i+s) (hs:s≤63):
  val l/2^n%2^64=(l.getD i 0+2^64*l.getD (i+1) 0)/2^s%2^64:=by
 have h1:val l/2^n=val (l.drop i)/2^s:=by rw[q1m h,hn,Nat.pow_add,Nat.div_div_eq_div_mul]
 have h2:=q65 (l.drop i);have h3:=q65 ((l.drop i).drop 1);have g0:(l.drop i).getD 0 0=l.getD i 0:=by rw[getD_drop];rfl
 have g1:((l.drop i).drop 1).getD 0 0=l.getD (i+1) 0:=by rw[getD_drop,getD_drop]
 rw[g0] at h2;rw[g1] at h3;rw[h1,h2,h3];generalize l.getD i 0=x;generalize l.getD (i+1) 0=y;generalize val (((l.drop i).drop 1).drop 1)=V;have e0:2^64=2^s*2^(64-s):=by rw[← Nat.pow_add];congr 1;omega
 have e1:x+2^64*(y+2^64*V)=(x+2^64*y)+2^s*(2^64*(2^(64-s)*V)):=by
  have:2^64*(2^64*V)=2^s*(2^64*(2^(64-s)*V)):=by
   rw[Nat.mul_left_comm (2^s),← Nat.mul_assoc (2^s),← e0]
  omega
 rw[e1,Nat.add_mul_div_left _ _ (Nat.two_pow_pos _),Nat.add_mul_mod_self_left]
theorem qct (x y s:Nat) (hx:x<2^64) (hs:s≤63):∃ lo v u:Nat,
  x/2^s=lo∧IntKind.u64.wrap ((y:Int)*2^(64-s))=v∧bits .or .u64 (lo:Int) (v:Int)=u∧(x+2^64*y)/2^s%2^64=u:=by
 have hp0:=Nat.two_pow_pos s;have hr0:=Nat.two_pow_pos (64-s);have e0:2^64=2^s*2^(64-s):=by rw[← Nat.pow_add];congr 1;omega
 have e1:(x+2^64*y)/2^s=x/2^s+y*2^(64-s):=by
  rw[e0,Nat.mul_assoc,Nat.add_mul_div_left _ _ hp0,Nat.mul_comm y]
 have e2:y*2^(64-s)%2^64=(y%2^s)*2^(64-s):=by rw[e0,Nat.mul_mod_mul_right]
 have e3:x/2^s<2^(64-s):=Nat.div_lt_of_lt_mul (by rw[← e0];exact hx);have e4:(y%2^s)*2^(64-s)+2^(64-s)≤2^64:=by
  have h1:y%2^s<2^s:=Nat.mod_lt _ hp0;have h2:(y%2^s+1)*2^(64-s)≤2^s*2^(64-s):=Nat.mul_le_mul_right _ h1;rw[← e0,Nat.add_mul,Nat.one_mul] at h2;exact h2
 have e5:y*2^(64-s)%2^64%2^(64-s)=0:=by rw[e2];exact Nat.mul_mod_left _ _
 have e6:((y:Int)*2^(64-s))=((y*2^(64-s):Nat):Int):=by push_cast;rfl
 rw[← e2] at e4;rw[e6,e1];clear e0 e1 e2 e6;have e7:2^(64-s)≤2^64:=Nat.pow_le_pow_right (by omega) (by omega);generalize hg:y*2^(64-s)=v at *;generalize x/2^s=lo at *;refine⟨lo,v%2^64,v%2^64+lo,rfl,?_,?_,?_⟩
 ·rw[IntKind.wrap_u64];omega
 ·rw[u64_or_nat _ _ (by omega) (by omega),Nat.or_comm,nat_join (64-s) _ lo e5 e3]
 ·generalize 2^(64-s)=r at *;omega
theorem q6A (w:World) (va:Value) (l:List Nat) (n:Nat) (hn:n≤100000000) (hl:Sl w va l) (hll:l.length≤1040000):
  Calls Tryz.prog 188 #[va,.int .i64 (n:Int)] w fun e w'=>e= .returned (.int .u64 ((val l/2^n%2^64:Nat):Int))∧G w w':=by
 have aN:=hl.1;obtain⟨pa,ca,rfl,dL,hra⟩:=q0n hl;have HA:Hid _:=hra;clear hra hl;generalize hln:l.length=j at *;have HN:Hid _:=hln;clear hln;have hd1:(n:Int)/64=((n/64:Nat):Int):=by omega
 have hd2:(n:Int)%64=((n%64:Nat):Int):=by omega
 have hnn:n=64*(n/64)+n%64:=by omega
 have hs:((n%64:Nat):Int)≤63:=by omega
 have hq:((n/64:Nat):Int)≤10000000:=by omega
 generalize n/64=q at *;generalize n%64=s at *;rw[q6R aN hnn (by omega)];have hnb:(n:Int)≤100000000:=by omega
 obtain⟨lo,v,u,h1,h2,h3,h4⟩:=qct (l.getD q 0) (l.getD (q+1) 0) s (q05 aN q) (by omega);rw[h4];have hx:=q05 aN q;have hdv:((l.getD q 0:Nat):Int)/2^s=(lo:Int):=by rw[← h1];push_cast;rfl
 have hy0:l.getD (q+1) 0=0→u=lo:=by
  intro e;rw[e,Nat.mul_zero,Nat.add_zero,h1] at h4;have:lo≤l.getD q 0:=by rw[← h1];exact Nat.div_le_self _ _
  omega
 have hx0:l.getD q 0=0→lo=0:=by
  intro e;rw[e,Nat.zero_div] at h1;exact h1.symm
 clear h1 h4 hnn hn;by_cases h5:q<j
 ·obtain⟨b1,o1,rfl,hB1,hc1⟩:=HA.out q h5;by_cases h6:q+1<j
  ·obtain⟨b2,o2,e2,hB2,hc2⟩:=HA.out (q+1) h6;injection e2 with e2;injection e2 with e3 e4;subst e3 e4;have O4:(q:Int)+1<j:=by omega
   generalize l.getD q 0=x at *;generalize l.getD (q+1) 0=y at *;clear hB1 hB2 HA aN;go_enter Tryz.func188,Tryz.ntmps188;go_wp2_with fail;go_ret;exact⟨rfl,G.refl _⟩
  ·have e1:=hy0 (by rw[List.getD_eq_getElem?_getD,List.getElem?_eq_none (by rw[HN.out];omega)];rfl);subst e1;have O4:¬ (q:Int)+1<j:=by omega
   clear hy0 hx0 h2 h3 h6;generalize l.getD q 0=x at *;clear hB1 HA aN;go_enter Tryz.func188,Tryz.ntmps188;go_wp2_with fail;go_ret;exact⟨rfl,G.refl _⟩
 ·have e1:=hy0 (by rw[List.getD_eq_getElem?_getD,List.getElem?_eq_none (by rw[HN.out];omega)];rfl);have e0:=hx0 (by rw[List.getD_eq_getElem?_getD,List.getElem?_eq_none (by rw[HN.out];omega)];rfl);subst e1;subst e0;have Td:¬ (q:Int)<j:=by omega
  have O4:¬ (q:Int)+1<j:=by omega
  clear hy0 hx0 h2 h3 hdv hx HA aN;go_enter Tryz.func188,Tryz.ntmps188;go_wp2_with fail;go_ret;exact⟨rfl,G.refl _⟩
/-- One step of a shift to the right. -/
theorem right_step {zs:List Nat} {A n k N u:Nat} (hk:k<N) (hz:zs.length=N) (hv:val (zs.take k)=A/2^n%2^(64*k)) (hu:u=A/2^(n+64*k)%2^64):
  val ((zs.set k u).take (k+1))=A/2^n%2^(64*(k+1)):=by
 rw[q0j (by omega),hv,hu,show 64*(k+1)=64*k+64 from by omega,Nat.pow_add (2) (64*k) 64,Nat.mod_mul,Nat.pow_add,Nat.div_div_eq_div_mul]
theorem q83 {A n q j:Nat} (hA:A<2^(64*j)) (hn:64*q≤n) (hq:q≤j):A/2^n%2^(64*(j-q))=A/2^n:=by
 apply Nat.mod_eq_of_lt;apply Nat.div_lt_of_lt_mul;rw[← Nat.pow_add];exact Nat.lt_of_lt_of_le hA (Nat.pow_le_pow_right (by omega) (by omega))
set_option maxRecDepth 20000 in
theorem q1b (w:World) (va:Value) (a n K:Nat) (hK:K≤500000) (hn:n≤10000000) (ha:Num w va a) (ha2:a<2^(64*K)):
  Calls Tryz.prog 129 #[va,.int .i64 (n:Int)] w (q0e w (a/2^n)):=by
 by_cases hn0:n=0
 ·subst hn0;rw[show ((0:Nat):Int)=0 from rfl];have HA:Hid (Num w va a):=ha;clear ha ha2;go_enter Tryz.func129,Tryz.ntmps129;go_wp2_with fail;go_ret;exact⟨va,rfl,G.refl _,(by rw[Nat.pow_zero,Nat.div_one];exact HA.out)⟩
 have Kt:((n:Int)==0)=false:=by simp;omega
 clear hn0;obtain⟨l,hl,hcl,rfl⟩:=ha;have hll:=q06 hcl ha2;clear ha2;have hlt:=q0v hl.1;have HL:Hid _:=fun (w':World) (g:G w w') (t:Nat) (ht:t≤100000000)=>q6A w' va l t ht (Sl.G hl g) (by omega);obtain⟨pa,ca,rfl,dL,-⟩:=q0n hl;clear hl;generalize hln:l.length=j at *;have HN:Hid _:=hln;clear hln;have hd1:(n:Int)/64=((n/64:Nat):Int):=by omega
 have hnq:64*(n/64)≤n:=by omega
 have Tc:n<64*(n/64)+64:=by omega
 have hq:((n/64:Nat):Int)≤312500:=by omega
 generalize n/64=q at *;have hnb:(n:Int)≤10000000:=by omega
 by_cases h:q≤j
 ·have HE:Hid _:=q83 hlt hnq h;obtain⟨N,hN⟩:∃ N,N=j-q:=⟨_,rfl⟩;rw[← hN] at HE;have hjq:(j:Int)-q=N:=by omega
  have FH:¬ j<q:=by omega
  have Hm:¬ (j:Int)-q<0:=by omega
  have hh3:¬ (0:Int)>(j:Int)-q:=by omega
  have Uo:¬ (0:Int)>(N:Int):=by omega
  have Uq:(N:Int)≤500000:=by omega
  have hmk:=q1e N (by omega);clear hlt hN;go_enter Tryz.func129,Tryz.ntmps129;go_wp2_with fail
  go_loopw [19] (fun vk wr=>∃ (k:Nat) (zs:List Nat),k≤N∧vk= .int .i64 k∧zs.length=N∧Own wr w.heap.size zs∧val (zs.take k)=val l/2^n%2^(64*k)∧G w wr) (fun vk _=>N-(intOf vk).toNat)
  case atStart=>exact⟨0,List.replicate N 0,Nat.zero_le _,rfl,by simp,q0C w N 85,by simp [val,Nat.mod_one],(G.refl _).alloc _⟩
  case round=>
   obtain⟨k,zs,hk,rfl,hzl,hown,hval,hG⟩:=hrel;have HV:Hid _:=hval;have HZ:Hid _:=hzl;have HO:Hid _:=hown;by_cases hkn:k<N
   ·have HW:Hid _:=HL.out wr hG (n+64*k) (by omega);have hu:val l/2^(n+64*k)%2^64<2^64:=Nat.mod_lt _ (Nat.two_pow_pos _);have HS:Hid _:=right_step hkn hzl hval (u:=val l/2^(n+64*k)%2^64) rfl;generalize val l/2^(n+64*k)%2^64=u at *;rw[show ((n+64*k:Nat):Int)=(n:Int)+64*k from by omega] at HW;have HU:Hid _:=hu;have hki:(k:Int)≤500000:=by omega
    clear hval hzl hown hu;go_wp2_with fail;refine Calls.mono (P:=Tryz.prog) HW.out ?_;rintro e w1 ⟨rfl,hg1⟩;have hown1:=Own.grow HO.out hg1;have hc:=Own.cell (i:=k) hown1 (by rw[HZ.out];omega);have hf:=Own.frozen (i:=k) hown1 (by rw[HZ.out];omega);have uD:Hid _:=Own.set hown1 k u (by rw[HZ.out];omega) HU.out;have uy:Hid _:=(G.trans hG hg1).setCell (p:=⟨w.heap.size,k,none⟩) (Nat.le_refl _) (.int .u64 (u:Int));generalize zs.getD k 0=z at *;clear hown1 hg1;go_wp2_with fail
    go_roundw
    case rel=>exact⟨k+1,zs.set k u,by omega,by go_num,by rw[List.length_set];exact HZ.out,uD.out,HS.out,uy.out⟩
    case measure=>simp only[intOf];omega
   ·obtain rfl:k=N:=by omega
    have hT:Hid _:=q0G hown hzl (by omega);have q2:val zs=val l/2^n:=by
     have h1:=HV.out;rw[List.take_of_length_le (by rw[HZ.out];omega),HE.out] at h1;exact h1
    rw[q2] at hT;clear q2 hval hzl hown;go_wp2_with fail;refine Calls.mono (P:=Tryz.prog) hT.out ?_;rintro e w1 ⟨v1,rfl,hb1,hn1⟩;go_wp2_with fail;go_ret;exact⟨v1,rfl,G.trans hG hb1,hn1⟩
 ·have hz:val l/2^n=0:=by
   apply Nat.div_eq_of_lt;have:2^(64*j)≤2^n:=Nat.pow_le_pow_right (by omega) (by omega);omega
  rw[hz];have FH:j<q:=by omega
  have hmx:max ((j:Int)-q) 0=0:=by omega
  have hmk:=q1e 0 (by omega);rw[show ((0:Nat):Int)=0 from rfl] at hmk;have HT:Hid _:=q0G (n:=0) (cs:=[]) (by have:=q0C w 0 85;simpa using this) rfl (by omega);clear hlt h hz;go_enter Tryz.func129,Tryz.ntmps129;go_wp2_with fail;refine wp_loop_rounds 1 ?_;rw[rounds_succ];go_wp2_with fail;refine Calls.mono (P:=Tryz.prog) HT.out ?_;rintro e w1 ⟨v1,rfl,hb1,hn1⟩;go_wp2_with fail;go_ret;exact⟨v1,rfl,G.trans ((G.refl _).alloc _) hb1,hn1⟩
/-- How many digits in twos a number has. -/
def blen (a:Nat):Nat:=if a=0 then 0 else a.log2+1
theorem q19 {x:Nat} (h0:x≠0) (hx:x<2^64):Lib.bitLen x=x.log2+1:=by
 have h1:=(Nat.log2_eq_iff (k:=x.log2) h0).1 rfl;have h2:=Lib.bitLen_shift x.log2 x h1.1 hx;have h3:x/2^x.log2=1:=by
  have h4:=h1.2;rw[Nat.pow_succ] at h4;have hp:=Nat.two_pow_pos x.log2;apply Nat.div_eq_of_lt_le
  ·omega
  ·omega
 rw[h3,show Lib.bitLen 1=1 from by decide] at h2;exact h2
theorem q28 {l:List Nat} {n:Nat} (h:canon l) (hn:l.length=n+1):l.getD n 0≠0:=by
 have hne:l≠[]:=by intro e;rw[e] at hn;simp at hn
 have:=h.2 hne;rw[List.getLast_eq_getElem] at this;rw[List.getD_eq_getElem?_getD,List.getElem?_eq_getElem (by omega)];simpa [hn] using this
theorem q8Y {l:List Nat} {n:Nat} (h:canon l) (hn:l.length=n+1):blen (val l)=64*n+Lib.bitLen (l.getD n 0):=by
 have h0:=q28 h hn;have hx:=q05 h.1 n;have h3:=q0t (l:=l) (k:=n) (by omega);rw[List.drop_eq_nil_of_le (by omega)] at h3;have h4:=q0u h.1 n (by omega);simp only[val,Nat.mul_zero,Nat.add_zero] at h3;rw[q19 h0 hx];have h1:=(Nat.log2_eq_iff (k:=(l.getD n 0).log2) h0).1 rfl;generalize l.getD n 0=x at *;generalize val (l.take n)=T at *;have hp:=Nat.two_pow_pos (64*n);have h5:2^(64*n)*2^x.log2≤2^(64*n)*x:=Nat.mul_le_mul_left _ h1.1;have h6:2^(64*n)*(x+1)≤2^(64*n)*2^(x.log2+1):=Nat.mul_le_mul_left _ h1.2;rw[← Nat.pow_add] at h5 h6;rw[Nat.mul_add] at h6;have h7:=Nat.two_pow_pos (64*n+x.log2);have h8:val l≠0:=by omega
 unfold blen;rw[if_neg h8,(Nat.log2_eq_iff h8).2 ⟨(by omega:2^(64*n+x.log2)≤val l),(by rw[show 64*n+x.log2+1=64*n+(x.log2+1) from by omega];omega)⟩];omega
theorem q2C (w:World) (va:Value) (a K:Nat) (hK:K≤1000000) (ha:Num w va a) (ha2:a<2^(64*K)):
  Calls Tryz.prog 127 #[va] w fun e w'=>e= .returned (.int .i64 (blen a))∧G w w':=by
 obtain⟨l,hl,hcl,rfl⟩:=ha;have hll:=q06 hcl ha2;clear ha2;have aN:=hl.1;obtain⟨pa,ca,rfl,dL,hra⟩:=q0n hl;have HA:Hid _:=hra;clear hra hl;generalize hln:l.length=j at *;have HN:Hid _:=hln;by_cases hj0:j=0
 ·subst hj0;have hl0:l=[]:=List.eq_nil_of_length_eq_zero HN.out;subst hl0;rw[show blen (val [])=0 from rfl];clear hln;go_enter Tryz.func127,Tryz.ntmps127;go_wp2_with fail;go_ret;exact⟨rfl,G.refl _⟩
 ·obtain⟨n,hn⟩:∃ n,j=n+1:=⟨j-1,by omega⟩;rw[q8Y hcl (hln.trans hn)];obtain⟨b1,o1,rfl,hB1,hc1⟩:=HA.out n (by omega);have hx:=q05 aN n;have K2:Hid _:=Tryz.bits_Len64 (l.getD n 0:Int) w (by omega) (by omega);rw[Int.toNat_natCast] at K2;generalize l.getD n 0=x at *;have hle:Lib.bitLen x≤64:=by
   by_cases h:x=0
   ·subst h;decide
   ·rw[q19 h hx];have:=(Nat.log2_lt h).2 hx;omega
  generalize Lib.bitLen x=u at *;have hb1:(n:Int)≤1000000:=by omega
  have hjn:(j:Int)-1=n:=by omega
  have Un:n<j:=by omega
  have hb2:(u:Int)≤64:=by omega
  have ht:((j:Int)==0)=false:=by simp;omega
  clear hln hn hj0 HN hcl aN HA hx hle;go_enter Tryz.func127,Tryz.ntmps127;go_wp2_with fail;refine Calls.mono (P:=Tryz.prog) K2.out ?_;rintro e w1 ⟨rfl,rfl⟩;go_wp2_with fail;go_ret;exact⟨q0x (by omega),G.refl _⟩
theorem q38:∀ a:Nat,0<a→∃ j k,a=(2*j+1)*2^k:=by
 intro a
 induction a using Nat.strongRecOn with
 |ind a ih=>
  intro h;by_cases hp:a%2=1
  ·exact⟨a/2,0,by omega⟩
  ·obtain⟨j,k,e⟩:=ih (a/2) (by omega) (by omega);exact⟨j,k+1,by rw[Nat.pow_succ,← Nat.mul_assoc,← e];omega⟩
theorem q6j:∀ (l:List Nat),val l≠0→∃ i,i<l.length∧(∀ t,t<i→l.getD t 0=0)∧l.getD i 0≠0
 |[],h=>absurd rfl h
 |d::l,h=>by
  by_cases hd:d=0
  ·subst hd;have hl:val l≠0:=fun e=>h (by show 0+2^64*val l=0;rw[e]);obtain⟨i,h1,h2,h3⟩:=q6j l hl;refine⟨i+1,by simp;omega,fun t ht=> ?_,h3⟩;cases t with
   |zero=>rfl
   |succ t=>exact h2 t (by omega)
  ·exact⟨0,by simp,fun t ht=>by omega,hd⟩
theorem take_zero {l:List Nat}:∀ {i:Nat},(∀ t,t<i→l.getD t 0=0)→val (l.take i)=0
 |0,_=>by simp [val]
 |i+1,h=>by
  rw[q07,take_zero (fun t ht=>h t (by omega)),h i (by omega)];simp
theorem q8M {a b x y:Nat} (h:(2*a+1)*2^x=(2*b+1)*2^y):x=y:=by
 have key:∀ {a b x y:Nat},(2*a+1)*2^x=(2*b+1)*2^y→x<y→False:=by
  intro a b x y h hlt;have e:2^y=2*2^(y-x-1)*2^x:=by rw[← Nat.pow_succ',← Nat.pow_add];congr 1;omega
  rw[e,← Nat.mul_assoc] at h;have:=Nat.mul_right_cancel (Nat.two_pow_pos x) h;have h3:(2*b+1)*(2*2^(y-x-1))=2*((2*b+1)*2^(y-x-1)):=by ac_rfl
  omega
 rcases Nat.lt_trichotomy x y with hx|hx|hx
 ·exact(key h hx).elim
 ·exact hx
 ·exact(key h.symm hx).elim
theorem qah {l:List Nat} {i j k jj t:Nat} (hi:i<l.length) (hz:∀ t,t<i→l.getD t 0=0) (hw:l.getD i 0=(2*jj+1)*2^t) (ht:t<64) (h:val l=(2*j+1)*2^k):k=64*i+t:=by
 have h1:=q0t hi;rw[take_zero hz,hw,Nat.zero_add] at h1;have e:2^64=2^(64-t)*2^t:=by rw[← Nat.pow_add];congr 1;omega
 have e2:2^(64-t)=2*2^(64-t-1):=by rw[← Nat.pow_succ'];congr 1;omega
 have e3:2^(64*i)*((2*jj+1)*2^t+2^64*val (l.drop (i+1)))=(2*(jj+2^(64-t-1)*val (l.drop (i+1)))+1)*2^(64*i+t):=by
  rw[e,e2,Nat.pow_add];generalize val (l.drop (i+1))=V;generalize 2^(64*i)=P;generalize 2^t=T;generalize 2^(64-t-1)=S;rw[show (2*jj+1)*T+2*S*T*V=(2*(jj+S*V)+1)*T from by
   rw[show 2*S*T*V=2*(S*V)*T from by ac_rfl,← Nat.add_mul]
   congr 1
   omega]
  ac_rfl
 rw[e3,h] at h1;exact q8M h1
theorem q35 (w:World) (va:Value) (a j k K:Nat) (hK:K≤1000000) (ht:Tab w) (ha:Num w va a) (ha2:a<2^(64*K)) (hj:a=(2*j+1)*2^k):
  Calls Tryz.prog 126 #[va] w fun e w'=>e= .returned (.int .i64 k)∧G w w':=by
 obtain⟨l,hl,hcl,rfl⟩:=ha;have hll:=q06 hcl ha2;clear ha2;have aN:=hl.1;obtain⟨pa,ca,rfl,dL,hra⟩:=q0n hl;have HA:Hid _:=hra;clear hra hl;have h0:val l≠0:=by rw[hj];exact Nat.mul_ne_zero (by omega) (Nat.ne_of_gt (Nat.two_pow_pos k))
 obtain⟨i,hi,hz,hd⟩:=q6j l h0;have hx:=q05 aN i;obtain⟨jj,t,hjt⟩:=FT.odd_part _ hd;have htl:t<64:=by rw[hjt] at hx;exact FT.tz_lt hx
 have hk:=qah hi hz hjt htl hj;have HT:Hid _:=fun w ht=>tz_c (l.getD i 0) jj t w ht hx hjt;obtain⟨b1,o1,rfl,hB1,hc1⟩:=HA.out i hi;have HZ:Hid (∀ q,q<i→w.cell? ⟨b1,o1+q,none⟩=some (.int .u64 0)):=by
  intro q hq;obtain⟨b2,o2,e,-,hc⟩:=HA.out q (by omega);injection e with e;injection e with e1 e2;subst e1;subst e2;rw[hz q hq] at hc;exact hc
 generalize l.getD i 0=x at *;have hxt:((x:Int)==0)=false:=by simp;exact hd
 generalize hln:l.length=n at *;have HK:Hid (k=64*i+t):=hk;have HI:Hid (i<n):=hi;have hn1:(n:Int)≤1000000:=by omega
 clear hd hjt hx hz h0 hj hk aN hcl HA hln;go_enter Tryz.func126,Tryz.ntmps126;go_wp2_with fail
 go_loop [3] (fun vi=>∃ q:Nat,q≤i∧vi= .int .i64 q) (fun vi=>i-(intOf vi).toNat)
 case atStart=>exact⟨0,by omega,rfl⟩
 case round=>
  obtain⟨q,hq,rfl⟩:=hrel;have MK:(q:Int)<n:=by have:=HI.out;omega
  by_cases hqi:q=i
  ·subst hqi;have HT2:Hid _:=HT.out w ht;clear HZ HT ht hB1;go_wp2_with fail;refine Calls.mono (P:=Tryz.prog) HT2.out ?_;rintro e w1 ⟨rfl,g1⟩;have hk:=HK.out;have Ta:(t:Int)<64:=by omega
   go_wp2_with fail;go_ret;exact⟨q0x (by omega),g1⟩
  ·have hc:=HZ.out q (by omega);have h00:((0:Int)==0)=true:=rfl;clear hc1 hxt;go_wp2_with fail
   go_round
   case rel=>exact⟨q+1,by omega,by go_num⟩
   case measure=>simp [intOf];omega
/-- One half digit: h and u2 by top and next, in digits of B. -/
theorem half_start {B h top next u2:Nat} (ht:0<top) (hu:u2<B):h*B+u2<(h/top+1)*(top*B+next):=by
 have h1:=Nat.lt_div_mul_add ht (a:=h);have h2:h+1≤(h/top+1)*top:=by rw[Nat.add_mul,Nat.one_mul];omega
 generalize h/top=g at *;have h3:(h+1)*B≤(g+1)*top*B:=Nat.mul_le_mul_right _ h2;have h4:(g+1)*(top*B+next)=(g+1)*top*B+(g+1)*next:=by rw[Nat.mul_add,Nat.mul_assoc]
 have h5:(h+1)*B=h*B+B:=by rw[Nat.add_mul,Nat.one_mul]
 omega
theorem q77 {B g r h top next:Nat} (hg:g*top+r=h):g*(top*B+next)+r*B=h*B+g*next:=by
 rw[← hg,Nat.mul_add,Nat.add_mul,Nat.mul_assoc];omega
theorem q5e {B g r h top next u2:Nat} (hg:g*top+r=h) (ht:r*B+u2<g*next):h*B+u2<g*(top*B+next):=by
 have:=q77 (B:=B) (next:=next) hg;omega
theorem q2M {B g h top next u2:Nat} (hW:h<top*B+next) (hu:u2<B) (hg:B≤g):h*B+u2<g*(top*B+next):=by
 have h1:B*(top*B+next)≤g*(top*B+next):=Nat.mul_le_mul_right _ hg;have h2:(h+1)*B≤(top*B+next)*B:=Nat.mul_le_mul_right _ hW;rw[Nat.mul_comm B] at h1;rw[Nat.add_mul,Nat.one_mul] at h2;omega
theorem q3a {B g r h top next u2:Nat} (hg:g*top+r=h) (ht:g*next≤r*B+u2):g*(top*B+next)≤h*B+u2:=by
 have:=q77 (B:=B) (next:=next) hg;omega
theorem q6h {B g r h top next u2:Nat} (hW:h<top*B+next) (hn:next<B) (hg:g*top+r=h) (hr:B≤r):g<B∧g*next≤r*B+u2:=by
 have h1:g*top<B*top:=by rw[Nat.mul_comm B top];omega
 have h2:g<B:=Nat.lt_of_mul_lt_mul_right h1;have h3:g*next≤B*B:=Nat.mul_le_mul (by omega) (by omega)
 have h4:B*B≤r*B:=Nat.mul_le_mul_right _ hr;exact⟨h2,by omega⟩
theorem q3S {B g h top next u2:Nat} (hW:h<top*B+next) (hu:u2<B) (hg:g*(top*B+next)≤h*B+u2):g<B:=by
 by_cases h:g<B
 ·exact h
 ·have:=q2M (next:=next) hW hu (by omega:B≤g);omega
/-- The words that the two halves begin with. -/
theorem qau (hi lo y s:Nat) (hhi:hi<y) (hlo:lo<2^64) (hs:s≤63) (wz:2^63≤y*2^s) (hY2:y*2^s<2^64):∃ Y H L h top next U u1 u0:Nat,
  IntKind.u64.wrap ((y:Int)*2^s)=Y∧(Y:Int)/4294967296=top∧bits .and .u64 (Y:Int) 4294967295=next∧IntKind.u64.wrap ((hi:Int)*2^s)=H∧(lo:Int)/2^(64-s)=L∧bits .or .u64 (H:Int) (L:Int)=h∧
  IntKind.u64.wrap ((lo:Int)*2^s)=U∧(U:Int)/4294967296=u1∧bits .and .u64 (U:Int) 4294967295=u0∧
  Y=y*2^s∧Y=top*2^32+next∧next<2^32∧2^31≤top∧top<2^32∧h<Y∧u1<2^32∧u0<2^32∧h*2^64+(u1*2^32+u0)=(hi*2^64+lo)*2^s:=by
 obtain⟨P,hP⟩:∃ P,P=2^s:=⟨_,rfl⟩;obtain⟨R,hR⟩:∃ R,R=2^(64-s):=⟨_,rfl⟩;have Ko:P*R=2^64:=by rw[hP,hR,← Nat.pow_add];congr 1;omega
 have SX:0<P:=by rw[hP];exact Nat.two_pow_pos _
 have hR0:0<R:=by rw[hR];exact Nat.two_pow_pos _
 have Kq:(2:Int)^s=(P:Int):=by rw[hP];push_cast;rfl
 have SY:(2:Int)^(64-s)=(R:Int):=by rw[hR];push_cast;rfl
 rw[← hP] at wz hY2;have hH:hi*P+P≤y*P:=by
  have:=Nat.mul_le_mul_right P hhi;rw[Nat.succ_mul] at this;exact this
 have Kr:lo/R<P:=by
  rw[Nat.div_lt_iff_lt_mul hR0];omega
 have hU:lo*P%2^64=(lo%R)*P:=by rw[← Ko,Nat.mul_comm P R,Nat.mul_mod_mul_right]
 have hm:=Nat.div_add_mod lo R;have hmr:lo%R<R:=Nat.mod_lt _ hR0;have T9:(lo%R)*P<2^64:=by rw[← Ko,Nat.mul_comm P R];exact Nat.mul_lt_mul_of_pos_right hmr SX
 have hHd:hi*P%2^s=0:=by rw[← hP];exact Nat.mul_mod_left _ _
 refine⟨y*P,hi*P,lo/R,hi*P+lo/R,y*P/2^32,y*P%2^32,(lo%R)*P,(lo%R)*P/2^32,(lo%R)*P%2^32,?_,by omega,?_,?_,?_,?_,?_,by omega,?_,by rw[hP],by omega,by omega,by omega,by omega,by omega,by omega,by omega,?_⟩
 ·rw[Kq,IntKind.wrap_u64,← Int.natCast_mul];omega
 ·exact FT.and_mask _ 32 hY2 (by omega)
 ·rw[Kq,IntKind.wrap_u64,← Int.natCast_mul];omega
 ·rw[SY,← Int.natCast_ediv]
 ·rw[u64_or_nat _ _ (by omega) (by omega),nat_join s _ (lo/R) hHd (by rw[← hP];exact Kr)]
 ·rw[Kq,IntKind.wrap_u64,← Int.natCast_mul,← hU];omega
 ·exact FT.and_mask _ 32 T9 (by omega)
 ·rw[← hP,Nat.add_mul,Nat.add_mul];have e1:(lo%R)*P/2^32*2^32+(lo%R)*P%2^32=(lo%R)*P:=by omega
  rw[e1,← Ko];have e3:lo*P=R*(lo/R)*P+(lo%R)*P:=by rw[← Nat.add_mul,hm]
  rw[e3,show lo/R*(P*R)=R*(lo/R)*P from by ac_rfl,show hi*P*(P*R)=hi*(P*R)*P from by ac_rfl];omega
/-- What both halves come to. -/
theorem q6C {B hi lo y s Y h u1 u0 g h2 g2 R:Nat} (hy:0<y) (hY:Y=y*2^s) (hS:h*(B*B)+(u1*B+u0)=(hi*(B*B)+lo)*2^s) (e1:g*Y+h2=h*B+u1) (e2:g2*Y+R=h2*B+u0) (hR:R<Y):
  g*B+g2=(hi*(B*B)+lo)/y∧R/2^s=(hi*(B*B)+lo)%y:=by
 have hp:=Nat.two_pow_pos s;generalize hi*(B*B)+lo=N at *;have e3:(g*B+g2)*Y+R=N*2^s:=by
  rw[← hS,Nat.add_mul,Nat.add_assoc,e2,← Nat.add_assoc,← Nat.mul_assoc,show g*B*Y+h2*B=(g*Y+h2)*B from by rw[Nat.add_mul];congr 1;ac_rfl,e1,Nat.add_mul,Nat.add_assoc]
 generalize g*B+g2=Q at *;have e4:R=(N-Q*y)*2^s:=by
  rw[Nat.sub_mul,← e3,hY,Nat.mul_assoc];omega
 have h5:N-Q*y<y:=by
  rw[e4,hY] at hR;exact Nat.lt_of_mul_lt_mul_right hR
 have h6:Q*y≤N:=by
  refine Nat.le_of_mul_le_mul_right (c:=2^s) ?_ hp;rw[Nat.mul_assoc,← hY];omega
 rw[e4,Nat.mul_div_cancel _ hp];have h7:N=(N-Q*y)+Q*y:=by omega
 constructor
 ·rw[h7,Nat.add_mul_div_right _ _ hy,Nat.div_eq_of_lt h5];omega
 ·conv=>rhs;rw[h7]
  rw[Nat.add_mul_mod_self_right,Nat.mod_eq_of_lt h5]
theorem q8a {hi lo y s Y h u1 u0 g h2 g2 R:Nat} (hy:0<y) (hY:Y=y*2^s) (hS:h*2^64+(u1*2^32+u0)=(hi*2^64+lo)*2^s) (e1:g*Y+h2=h*2^32+u1) (e2:g2*Y+R=h2*2^32+u0) (hR:R<Y):
  g*2^32+g2=(hi*2^64+lo)/y∧R/2^s=(hi*2^64+lo)%y:=by
 obtain⟨B,hB⟩:∃ B,B=2^32:=⟨_,rfl⟩;have AY:2^64=B*B:=by rw[hB]
 rw[AY] at hS ⊢;rw[← hB] at hS e1 e2 ⊢;exact q6C hy hY hS e1 e2 hR
/-- The words of a half. -/
theorem q9O (h top:Nat) (hh:h<2^64) (ht:2^31≤top) (ht2:top<2^32):∃ g p r:Nat,IntKind.u64.wrap ((h:Int)/top)=g∧IntKind.u64.wrap ((g:Int)*top)=p∧IntKind.u64.wrap ((h:Int)-p)=r∧g=h/top∧g*top+r=h∧r<2^32∧g<2^33:=by
 have hm:=Nat.div_add_mod h top;have hlt:=Nat.mod_lt h (show 0<top by omega);have hg:h/top<2^33:=by rw[Nat.div_lt_iff_lt_mul (by omega)];omega
 refine⟨h/top,h/top*top,h%top,?_,?_,?_,rfl,by rw[Nat.mul_comm];exact hm,by omega,hg⟩
 ·rw[← Int.natCast_ediv,IntKind.wrap_u64];generalize h/top=q at *;omega
 ·rw[← Int.natCast_mul,IntKind.wrap_u64];rw[Nat.mul_comm] at hm;generalize h/top*top=q at *;omega
 ·rw[Nat.mul_comm] at hm;rw[IntKind.wrap_u64];generalize h/top*top=q at *;omega
/-- The words that are compared. -/
theorem q9F (g next r u2:Nat) (hg:g<2^32) (hn:next<2^32) (hr:r<2^32) (hu:u2<2^32):∃ p q0 q:Nat,IntKind.u64.wrap ((g:Int)*next)=p∧IntKind.u64.wrap (4294967296*(r:Int))=q0∧IntKind.u64.wrap ((q0:Int)+u2)=q∧p=g*next∧q=r*2^32+u2:=by
 have h1:g*next≤2^32*2^32-2^33+1:=by
  have:g*next≤(2^32-1)*(2^32-1):=Nat.mul_le_mul (by omega) (by omega)
  omega
 refine⟨g*next,r*2^32,r*2^32+u2,?_,?_,?_,rfl,rfl⟩
 ·rw[← Int.natCast_mul,IntKind.wrap_u64];omega
 ·rw[IntKind.wrap_u64];omega
 ·rw[IntKind.wrap_u64];omega
/-- The words of what is left of a half. -/
theorem q9z (h u2 g Y:Nat) (h1:g*Y≤h*2^32+u2) (h2:h*2^32+u2<(g+1)*Y) (hY:Y<2^64):∃ a1 a2 a3 R:Nat,IntKind.u64.wrap ((h:Int)*4294967296)=a1∧IntKind.u64.wrap ((a1:Int)+u2)=a2∧IntKind.u64.wrap ((g:Int)*Y)=a3∧IntKind.u64.wrap ((a2:Int)-a3)=R∧g*Y+R=h*2^32+u2∧R<Y:=by
 rw[Nat.add_mul,Nat.one_mul] at h2;refine⟨h*2^32%2^64,(h*2^32%2^64+u2)%2^64,g*Y%2^64,h*2^32+u2-g*Y,?_,?_,?_,?_,?_,?_⟩
 ·rw[IntKind.wrap_u64];omega
 ·rw[IntKind.wrap_u64];omega
 ·rw[← Int.natCast_mul,IntKind.wrap_u64];generalize g*Y=X at *;omega
 ·rw[IntKind.wrap_u64];generalize g*Y=X at *;omega
 ·generalize g*Y=X at *;omega
 ·generalize g*Y=X at *;omega
/-- The quotient of two words by one. -/
def q4J (n y:Nat) (w:World) (e:Ending) (w':World):Prop:=e= .returned (.tuple #[.int .u64 ((n/y:Nat):Int),.int .u64 ((n%y:Nat):Int)])∧G w w'
theorem q9y {a a' b b':Int} (h1:a=a') (h2:b=b'):Ending.returned (.tuple #[.int .u64 a,.int .u64 b])= .returned (.tuple #[.int .u64 a',.int .u64 b']):=by rw[h1,h2]
theorem q9Y (w:World) (lo y:Nat) (hlo:lo<2^64) (hy0:0<y):
  Calls Tryz.prog 212 #[.int .u64 0,.int .u64 (lo:Int),.int .u64 (y:Int)] w (q4J lo y w):=by
 have h1:((y:Int)==0)=false:=by simp;omega
 have h2:decide ((y:Int)≤0)=false:=by simp;omega
 have h3:((0:Int)==0)=true:=rfl;have hyn:y≠0:=by omega
 have hle:=Nat.div_le_self lo y;have e1:IntKind.u64.wrap ((lo:Int)/y)=((lo/y:Nat):Int):=by
  rw[← Int.natCast_ediv,IntKind.wrap_u64];generalize lo/y=q at *;omega
 have e4:(lo:Int)%y=((lo%y:Nat):Int):=by rw[Int.natCast_emod]
 have E4:Hid _:=e4;unfold q4J;clear e4;generalize lo/y=q at *;generalize lo%y=r at *;go_enter Tryz.func212,Tryz.ntmps212;go_wp2_with fail;refine q0f (by kernel_rfl) (by kernel_rfl) ?_;intro W hW;clear hW
 repeat (go_big_quiet_step (fail))
 refine wpQuiet_nil ?_;intro w1 hw1;go_wp2_with fail
 go_ret2
 exact⟨q9y rfl E4.out,hw1⟩
set_option maxHeartbeats 4000000 in
set_option maxRecDepth 100000 in
theorem qaE (w:World) (hi lo y s:Nat) (hhi:hi<y) (hh0:0<hi) (hlo:lo<2^64) (hs:s≤63) (wz:2^63≤y*2^s) (hY2:y*2^s<2^64)
   (HL:∀ w,Calls Tryz.prog 189 #[.int .u64 (y:Int)] w fun e w'=>e= .returned (.int .i64 s)∧w'=w):
  Calls Tryz.prog 212 #[.int .u64 (hi:Int),.int .u64 (lo:Int),.int .u64 (y:Int)] w (q4J (hi*2^64+lo) y w):=by
 have h1:((y:Int)==0)=false:=by simp;omega
 have h2:decide (y≤hi)=false:=by simp;omega
 have h3:((hi:Int)==0)=false:=by simp;omega
 obtain⟨Y,H,L,h,top,next,U,u2,u0,x1,x2,x3,x4,x5,x6,x7,x8,x9,y1,y2,y3,y4,y5,y6,y7,y8,y9⟩:=qau hi lo y s hhi hlo hs wz hY2;have vM:Hid (Y<2^64):=by show Y<2^64;rw[y1];exact hY2
 obtain⟨AV,p0,K5,z1,z2,z3,z4,z5,z6,z7⟩:=q9O h top (by have:=vM.out;omega) y4 y5;obtain⟨B,hB⟩:∃ B,B=4294967296:=⟨_,rfl⟩;have kR:Hid (B=4294967296):=hB;have K6:Hid (h<top*B+next):=by show h<top*B+next;rw[hB];omega
 have K7:Hid (u2<B):=by show u2<B;omega
 have oW:Hid (next<B):=by show next<B;omega
 have Sn:Hid (AV<8589934592):=by show AV<8589934592;omega
 have Bh:Hid (K5<4294967296):=z6;have Sq:Hid (AV*top+K5=h):=z5;have Sr:Hid (h*B+u2<(AV+1)*(top*B+next)):=by
  show h*B+u2<(AV+1)*(top*B+next);rw[z4];exact half_start (by omega) K7.out
 have hnx:next<4294967296:=y3
 have Su:u2<4294967296:=y7;have htop:(top:Int)≤4294967295:=by omega
 have NV:top≠0:=by omega
 have hsi:(s:Int)≤63:=by omega
 have Sv:Hid (Y=y*2^s):=y1;have Ej:Hid (Y=top*4294967296+next):=y2;have zn:Hid (h*2^64+(u2*2^32+u0)=(hi*2^64+lo)*2^s):=y9;have hub:u0<4294967296:=y8;have K9:Hid (2^31≤top):=y4;have wG:Hid (h<Y):=y6;have qK:Hid (0<y):=by show 0<y;omega
 have HL:Hid _:=HL;clear y1 y2 y3 y4 y5 y6 y7 y8 y9 z4 z5 z6 z7 wz hY2 hB;go_enter Tryz.func212,Tryz.ntmps212;go_wp2_with fail;refine Calls.mono (P:=Tryz.prog) (HL.out _) ?_;rintro e w1 ⟨rfl,rfl⟩;go_wp2_with fail;clear h1 h2 h3 x1 x2 x3 x4 x5 x6 x7 x8 x9 z1 z2 z3 HL hhi hh0 hlo
 go_loop [15,16] (fun vg vr=>∃ g r:Nat,vg= .int .u64 g∧vr= .int .u64 r∧g<8589934592∧r<4294967296∧g*top+r=h∧h*B+u2<(g+1)*(top*B+next)) (fun vg _=>(intOf vg).toNat)
 case atStart=>exact⟨AV,K5,rfl,rfl,Sn.out,Bh.out,Sq.out,Sr.out⟩
 case round=>
  obtain⟨ga,ra,rfl,rfl,Sw,Ka,hgs,hgt⟩:=hrel;have vN:Hid _:=hgs;have Kb:Hid _:=hgt;clear hgs hgt;have Sy:(ga:Int)≤8589934591:=by omega
  have Sz:(ra:Int)≤4294967295:=by omega
  by_cases hga:4294967296≤ga
  case' pos=>
   have El:decide ((4294967296:Int)≤ga)=true:=by simp;omega
   have vO:Hid (h*B+u2<ga*(top*B+next)):=q2M K6.out K7.out (by rw[kR.out];exact hga);obtain⟨kI,hg'⟩:∃ g',ga=g'+1:=⟨ga-1,by omega⟩;have Kc:IntKind.u64.wrap ((ga:Int)-1)=kI:=by rw[IntKind.wrap_u64];omega
   have mP:Hid (kI*top+(ra+top)=h):=by
    show kI*top+(ra+top)=h;rw[← vN.out,hg',Nat.add_mul,Nat.one_mul];omega
   have qd:Hid _:=hg';clear hg'
  case' neg=>
   have El:decide ((4294967296:Int)≤ga)=false:=by simp;omega
   obtain⟨pa,Ue,qa,Uf,Ug,Uh,hpe,hqe⟩:=q9F ga next ra u2 (by omega) hnx Ka Su
   have qB:Hid _:=hpe;have qC:Hid _:=hqe;by_cases hpq:qa<pa
   case' pos=>
    have Em:decide (qa<pa)=true:=by simp;exact hpq
    have vO:Hid (h*B+u2<ga*(top*B+next)):=q5e vN.out (by rw[kR.out,← qB.out,← qC.out];exact hpq);obtain⟨kI,hg'⟩:∃ g',ga=g'+1:=by
     rcases ga with _|g'
     ·rw[Nat.zero_mul] at hpe;omega
     ·exact⟨g',rfl⟩
    have Kc:IntKind.u64.wrap ((ga:Int)-1)=kI:=by rw[IntKind.wrap_u64];omega
    have mP:Hid (kI*top+(ra+top)=h):=by
     show kI*top+(ra+top)=h;rw[← vN.out,hg',Nat.add_mul,Nat.one_mul];omega
    have qd:Hid _:=hg';clear hpe hqe hpq hg' qB qC
   case' neg=>
    have Em:decide (qa<pa)=false:=by simp;omega
  all_goals first
  |(have zR:Hid (ga*(top*B+next)≤h*B+u2):=q3a vN.out (by rw[kR.out,← qB.out,← qC.out];omega)
    have En:Hid (h*B+u2<(ga+1)*(top*B+next)):=Kb.out;clear hpe hqe hpq qB qC;obtain⟨kI,rfl⟩:∃ g',g'=ga:=⟨_,rfl⟩)
  |(by_cases Eo:4294967296≤ra+top
    case neg=>
      have Ke:decide ((4294967296:Int)≤(ra:Int)+top)=false:=by simp;omega
      go_wp2_with fail
      go_round
      case rel=>exact⟨kI,ra+top,rfl,by go_num,by have:=qd.out;omega,by omega,mP.out,by rw[← qd.out];exact vO.out⟩
      case measure=>have:=qd.out;simp [intOf];omega
    have Ke:decide ((4294967296:Int)≤(ra:Int)+top)=true:=by simp;omega
    obtain⟨k1,k2⟩:=q6h (u2:=u2) K6.out oW.out mP.out (by rw[kR.out];exact Eo);have zR:Hid (kI*(top*B+next)≤h*B+u2):=q3a mP.out k2;have En:Hid (h*B+u2<(kI+1)*(top*B+next)):=by show h*B+u2<(kI+1)*(top*B+next);rw[← qd.out];exact vO.out
    clear k1 k2 Eo vO mP qd)
  all_goals as_aux_lemma=>
   have NW:kI*Y≤h*2^32+u2:=by have:=zR.out;rw[kR.out] at this;rw[Ej.out];exact this
   have NY:h*2^32+u2<(kI+1)*Y:=by have:=En.out;rw[kR.out] at this;rw[Ej.out];exact this
   have NZ:kI<4294967296:=by have:=q3S K6.out K7.out zR.out;rw[kR.out] at this;exact this
   obtain⟨a1,a2,a3,h2,v1,v2,v3,v4,v5,v6⟩:=q9z h u2 kI Y NW NY vM.out;have h64:h2<2^64:=by have:=vM.out;omega
   obtain⟨AX,Ui,Kg,s1,s2,s3,s4,s5,s6,s7⟩:=q9O h2 top h64 K9.out (by omega);have O0:Hid (kI<4294967296):=NZ;have SC:Hid (kI*Y+h2=h*2^32+u2):=v5;have Kh:Hid (h2<top*B+next):=by show h2<top*B+next;rw[kR.out];have:=Ej.out;omega
   have Ki:Hid (u0<B):=by show u0<B;rw[kR.out];exact hub
   have SE:Hid (AX<8589934592):=by show AX<8589934592;omega
   have Bi:Hid (Kg<4294967296):=s6;have SF:Hid (AX*top+Kg=h2):=s5;have SG:Hid (h2*B+u0<(AX+1)*(top*B+next)):=by
    show h2*B+u0<(AX+1)*(top*B+next);rw[s4];exact half_start (by omega) Ki.out
   clear NW NY NZ v5 v6 h64 s4 s5 s6 s7;go_wp2_with fail;clear s1 s2 s3 v1 v2 v3 v4
   go_loop [18,16] (fun vg vr=>∃ g r:Nat,vg= .int .u64 g∧vr= .int .u64 r∧g<8589934592∧r<4294967296∧g*top+r=h2∧h2*B+u0<(g+1)*(top*B+next)) (fun vg _=>(intOf vg).toNat)
   case atStart=>exact⟨AX,Kg,rfl,rfl,SE.out,Bi.out,SF.out,SG.out⟩
   case round=>
    obtain⟨gb,rb,rfl,rfl,SH,Kj,hgs,hgt⟩:=hrel;have vP:Hid _:=hgs;have Kk:Hid _:=hgt;clear hgs hgt;have SK:(gb:Int)≤8589934591:=by omega
    have SL:(rb:Int)≤4294967295:=by omega
    by_cases hgb:4294967296≤gb
    case' pos=>
     have Ep:decide ((4294967296:Int)≤gb)=true:=by simp;omega
     have vQ:Hid (h2*B+u0<gb*(top*B+next)):=q2M Kh.out Ki.out (by rw[kR.out];exact hgb);obtain⟨ma,hg'⟩:∃ g',gb=g'+1:=⟨gb-1,by omega⟩;have Kl:IntKind.u64.wrap ((gb:Int)-1)=ma:=by rw[IntKind.wrap_u64];omega
     have mQ:Hid (ma*top+(rb+top)=h2):=by
      show ma*top+(rb+top)=h2;rw[← vP.out,hg',Nat.add_mul,Nat.one_mul];omega
     have qf:Hid _:=hg';clear hg'
    case' neg=>
     have Ep:decide ((4294967296:Int)≤gb)=false:=by simp;omega
     obtain⟨pb,Uj,qb,Uk,Ul,Um,hpe,hqe⟩:=q9F gb next rb u0 (by omega) hnx Kj hub
     have qB:Hid _:=hpe;have qC:Hid _:=hqe;by_cases hpq:qb<pb
     case' pos=>
      have Er:decide (qb<pb)=true:=by simp;exact hpq
      have vQ:Hid (h2*B+u0<gb*(top*B+next)):=q5e vP.out (by rw[kR.out,← qB.out,← qC.out];exact hpq);obtain⟨ma,hg'⟩:∃ g',gb=g'+1:=by
       rcases gb with _|g'
       ·rw[Nat.zero_mul] at hpe;omega
       ·exact⟨g',rfl⟩
      have Kl:IntKind.u64.wrap ((gb:Int)-1)=ma:=by rw[IntKind.wrap_u64];omega
      have mQ:Hid (ma*top+(rb+top)=h2):=by
       show ma*top+(rb+top)=h2;rw[← vP.out,hg',Nat.add_mul,Nat.one_mul];omega
      have qf:Hid _:=hg';clear hpe hqe hpq hg' qB qC
     case' neg=>
      have Er:decide (qb<pb)=false:=by simp;omega
    all_goals first
    |(have zS:Hid (gb*(top*B+next)≤h2*B+u0):=q3a vP.out (by rw[kR.out,← qB.out,← qC.out];omega)
      have Es:Hid (h2*B+u0<(gb+1)*(top*B+next)):=Kk.out;clear hpe hqe hpq qB qC;obtain⟨ma,rfl⟩:∃ g',g'=gb:=⟨_,rfl⟩)
    |(by_cases Et:4294967296≤rb+top
      case neg=>
        have Km:decide ((4294967296:Int)≤(rb:Int)+top)=false:=by simp;omega
        go_wp2_with fail
        go_round
        case rel=>exact⟨ma,rb+top,rfl,by go_num,by have:=qf.out;omega,by omega,mQ.out,by rw[← qf.out];exact vQ.out⟩
        case measure=>have:=qf.out;simp [intOf];omega
      have Km:decide ((4294967296:Int)≤(rb:Int)+top)=true:=by simp;omega
      obtain⟨k1,k2⟩:=q6h (u2:=u0) Kh.out oW.out mQ.out (by rw[kR.out];exact Et);have zS:Hid (ma*(top*B+next)≤h2*B+u0):=q3a mQ.out k2;have Es:Hid (h2*B+u0<(ma+1)*(top*B+next)):=by show h2*B+u0<(ma+1)*(top*B+next);rw[← qf.out];exact vQ.out
      clear k1 k2 Et vQ mQ qf)
    all_goals as_aux_lemma=>
     have O1:ma*Y≤h2*2^32+u0:=by have:=zS.out;rw[kR.out] at this;rw[Ej.out];exact this
     have O3:h2*2^32+u0<(ma+1)*Y:=by have:=Es.out;rw[kR.out] at this;rw[Ej.out];exact this
     have SN:ma<4294967296:=by have:=q3S Kh.out Ki.out zS.out;rw[kR.out] at this;exact this
     obtain⟨b1,b2,b3,R,t1,t2,t3,t4,t5,t6⟩:=q9z h2 u0 ma Y O1 O3 vM.out;obtain⟨e1,e2⟩:=q8a qK.out Sv.out zn.out SC.out t5 t6;obtain⟨G1,hG1⟩:∃ G1:Nat,G1=kI*4294967296:=⟨_,rfl⟩;have f1:IntKind.u64.wrap ((kI:Int)*4294967296)=G1:=by have:=O0.out;rw[IntKind.wrap_u64];omega
     have f2:IntKind.u64.wrap ((G1:Int)+ma)=((kI*2^32+ma:Nat):Int):=by have:=O0.out;rw[IntKind.wrap_u64];omega
     have f3:(R:Int)/2^s=((R/2^s:Nat):Int):=by rw[FT.ipow,Int.natCast_ediv]
     rw[e1] at f2;rw[e2] at f3;clear e1 e2 t5 t6 hG1 O1 O3 SN;unfold q4J;obtain⟨QQ,Kn⟩:∃ QQ,QQ=(hi*2^64+lo)/y:=⟨_,rfl⟩;obtain⟨RR,hRR⟩:∃ RR,RR=(hi*2^64+lo)%y:=⟨_,rfl⟩;rw[← Kn] at f2;rw[← hRR] at f3;have SV:Hid _:=Kn;have HRR:Hid _:=hRR;clear Kn hRR;go_wp2_with fail
     go_ret2
     exact⟨q9y (congrArg (fun n:Nat=>(n:Int)) SV.out) (congrArg (fun n:Nat=>(n:Int)) HRR.out),G.refl _⟩
theorem q3O {y:Nat} (h0:0<y) (hy:y<2^64):∃ s:Nat,s≤63∧(s:Int)=64-(Lib.bitLen y:Int)∧2^63≤y*2^s∧y*2^s<2^64:=by
 have hb:=q19 (x:=y) (by omega) hy;have hl:y.log2<64:=(Nat.log2_lt (by omega)).2 hy;have h1:=Nat.log2_self_le (n:=y) (by omega);have h2:=Nat.lt_log2_self (n:=y);obtain⟨s,hs⟩:∃ s,s=63-y.log2:=⟨_,rfl⟩;have hp:=Nat.two_pow_pos s;refine⟨s,by omega,by omega,?_,?_⟩
 ·have:=Nat.mul_le_mul_right (2^s) h1;rw[← Nat.pow_add,show y.log2+s=63 from by omega] at this;exact this
 ·have:=Nat.mul_lt_mul_of_pos_right h2 hp;rw[← Nat.pow_add,show y.log2+1+s=64 from by omega] at this;exact this
theorem q8g (w:World) (hi lo y:Nat) (hhi:hi<y) (hlo:lo<2^64) (hy:y<2^64):
  Calls Tryz.prog 212 #[.int .u64 (hi:Int),.int .u64 (lo:Int),.int .u64 (y:Int)] w (q4J (hi*2^64+lo) y w):=by
 rcases Nat.eq_zero_or_pos hi with rfl|h0
 ·have:=q9Y w lo y hlo (by omega);rw[show 0*2^64+lo=lo from by omega];exact this
 ·obtain⟨s,s1,s2,s3,s4⟩:=q3O (by omega:0<y) hy;refine qaE w hi lo y s hhi h0 hlo s1 s3 s4 fun w=> ?_;have:=Tryz.bits_LeadingZeros64 (y:Int) w (by omega) (by omega);rw[Int.toNat_natCast,← s2] at this;exact this
/-- A quotient and a rest. -/
def qcq (w:World) (q r:Nat) (e:Ending) (w':World):Prop:=∃ v,e= .returned (.tuple #[v,.int .u64 (r:Int)])∧G w w'∧Num w' v q
theorem qa3 {l cs:List Nat} {k x r y:Nat} (hk:k<l.length) (hc:cs.length=l.length) (hx:l.getD k 0=x) (h:val (l.drop (k+1))=val (cs.drop (k+1))*y+r):
  val (l.drop k)=val ((cs.set k ((r*2^64+x)/y)).drop k)*y+(r*2^64+x)%y:=by
 rw[q0h hk,hx,q0h (l:=cs.set k ((r*2^64+x)/y)) (by rw[List.length_set];omega),q0g (by omega),List.drop_set_of_lt (by omega)];show x+2^64*val (l.drop (k+1))=((r*2^64+x)/y+2^64*val (cs.drop (k+1)))*y+(r*2^64+x)%y;have hm:=Nat.div_add_mod (r*2^64+x) y;rw[h,Nat.add_mul,Nat.mul_assoc];rw[Nat.mul_comm y] at hm;generalize (r*2^64+x)/y*y=A at *;generalize (r*2^64+x)%y=M at *;generalize val (cs.drop (k+1))*y=V at *;omega
set_option maxHeartbeats 4000000 in
set_option maxRecDepth 100000 in
theorem q1E (w:World) (va:Value) (a y K:Nat) (hK:K≤1000000) (ha:Num w va a) (ha2:a<2^(64*K)) (hy0:0<y) (hy:y<2^64):
  Calls Tryz.prog 162 #[va,.int .u64 (y:Int)] w (qcq w (a/y) (a%y)):=by
 obtain⟨l,hl,hcl,rfl⟩:=ha;have hll:=q06 hcl ha2;clear ha2;have aN:=hl.1;obtain⟨pa,ca,rfl,dL,hra⟩:=q0n hl;have HA:Hid _:=hra;clear hra hl;generalize hln:l.length=n at *;have HN:Hid (l.length=n):=hln;clear hln;have hmk:=q1e n (by omega);have hyi:(y:Int)≤18446744073709551615:=by omega
 go_enter Tryz.func162,Tryz.ntmps162;go_wp2_with fail
 go_loopw [5,6] (fun vr vk wr=>∃ (t r:Nat) (cs:List Nat),t≤n∧vk= .int .i64 ((t:Int)-1)∧vr= .int .u64 r∧r<y∧cs.length=n∧Own wr w.heap.size cs∧val (l.drop t)=val (cs.drop t)*y+r∧G w wr) (fun _ vk _=>(intOf vk+1).toNat)
 case atStart=>exact⟨n,0,List.replicate n 0,Nat.le_refl _,rfl,rfl,hy0,by simp,q0C w n 85,by rw[List.drop_eq_nil_of_le (by rw[HN.out];exact Nat.le_refl _),List.drop_eq_nil_of_le (by simp)];simp [val],(G.refl _).alloc _⟩
 case round=>
  obtain⟨t,r,cs,ht,rfl,rfl,hr,hcs,hown,hval,hG⟩:=hrel;have HV:Hid _:=hval;have HC:Hid _:=hcs;have HO:Hid _:=hown;clear hval hcs hown;cases t with
  |succ k=>
   obtain⟨b1,o1,rfl,hB1,hc1'⟩:=HA.out k (by omega);have hc1:=hG.cell (p:=⟨b1,o1+k,none⟩) hB1 hc1';have hB2:Hid (b1<wr.heap.size):=Nat.lt_of_lt_of_le hB1 hG.size;clear hc1' hB1;have hx:=q05 aN k;have hq:(r*2^64+l.getD k 0)/y<2^64:=by
    rw[Nat.div_lt_iff_lt_mul hy0];generalize l.getD k 0=x at *;omega
   have hr':(r*2^64+l.getD k 0)%y<y:=Nat.mod_lt _ hy0;have HS:Hid _:=qa3 (cs:=cs) (l:=l) (y:=y) (r:=r) (k:=k) (by rw[HN.out];omega) (by rw[HC.out,HN.out]) rfl HV.out;have HD:Hid _:=q8g wr r (l.getD k 0) y hr hx hy;have HQ:Hid _:=hq;have HR:Hid _:=hr';have hxi:((l.getD k 0:Nat):Int)≤18446744073709551615:=by omega
   have FZ:(r:Int)≤18446744073709551615:=by omega
   generalize l.getD k 0=x at *;clear hq hr' hx;go_wp2_with fail;refine Calls.mono (P:=Tryz.prog) HD.out ?_;rintro e w2 ⟨rfl,g2⟩;have iT:Hid (Own w2 w.heap.size cs):=Own.grow HO.out g2;have hG2:=G.trans hG g2;have ho:=Own.cell (w:=w2) (b:=w.heap.size) (l:=cs) (i:=k) iT.out (by rw[HC.out];omega);have hf:=Own.frozen (w:=w2) (b:=w.heap.size) (l:=cs) (i:=k) iT.out (by rw[HC.out];omega);generalize (r*2^64+x)/y=q at *;generalize (r*2^64+x)%y=r' at *;generalize cs.getD k 0=z at *;clear HD g2 HO hc1;go_wp2_with fail
   go_roundw
   case rel=>exact⟨k,r',cs.set k q,by omega,by congr 1,rfl,HR.out,by rw[List.length_set];exact HC.out,Own.set iT.out k q (by rw[HC.out];omega) HQ.out,HS.out,hG2.setCell (Nat.le_refl _) _⟩
   case measure=>simp [intOf]
  |zero=>
   have hT:Hid _:=trim_c wr (.slice (some ⟨w.heap.size,0,none⟩) n n) cs (by have:=Own.sl HO.out n (by rw[HC.out];exact Nat.le_refl _);rw[HC.out] at this;exact this) (by rw[HC.out];omega);have q1:val l=val cs*y+r:=HV.out;have q2:val cs=val l/y:=by
    rw[q1,Nat.mul_comm,Nat.mul_add_div hy0,Nat.div_eq_of_lt hr,Nat.add_zero]
   have q3:r=val l%y:=by
    rw[q1,Nat.mul_comm,Nat.mul_add_mod,Nat.mod_eq_of_lt hr]
   rw[q2] at hT;have Q3:Hid _:=q3;clear q1 q2 q3;have FZ:(r:Int)≤18446744073709551615:=by omega
   go_wp2_with fail;refine Calls.mono (P:=Tryz.prog) hT.out ?_;rintro e w1 ⟨v1,rfl,hb1,hn1⟩;go_wp2_with fail
   go_ret2
   exact⟨v1,by rw[← Q3.out];rfl,G.trans hG hb1,hn1⟩
def q8R (w:World) (b o:Nat) (us:List Nat) (V:Nat) (e:Ending) (w':World):Prop:=
 ∃ cs:List Nat,e= .returned (.int .u64 ((val us/V:Nat):Int))∧cs.length=us.length∧At w' b o cs∧GB b o us.length w w'∧val cs=val us%V
theorem qaB (w:World) (hi lo y:Nat) (hhi:hi<y) (hlo:lo<2^64) (hy:y<2^64):
  Calls Tryz.prog 212 #[.int .u64 (hi:Int),.int .u64 (lo:Int),.int .u64 (y:Int)] w fun e w'=>e= .returned (.tuple #[.int .u64 (((hi*2^64+lo)/y:Nat):Int),.int .u64 (((hi*2^64+lo)%y:Nat):Int)])∧G w w':=
 q8g w hi lo y hhi hlo hy
theorem Sl.gb {w w':World} {b o n bv ov cv:Nat} {vl:List Nat} {m:Nat} (h:Sl w (.slice (some ⟨bv,ov,none⟩) m cv) vl) (g:GB b o n w w') (hne:bv≠b) (hb:bv<w.heap.size):Sl w' (.slice (some ⟨bv,ov,none⟩) m cv) vl:=by
 refine⟨h.1,?_⟩;rcases h.2 with ⟨h1,h2⟩|⟨b1,o1,c1,e,h1,h2,h3⟩
 ·exact Or.inl ⟨h1,h2⟩
 ·injection e with e1 e2 e3;injection e1 with e1;injection e1 with e1 e4;subst e1;subst e4;subst e2;subst e3;exact Or.inr ⟨bv,ov,cv,rfl,h1,Nat.lt_of_lt_of_le hb g.size,fun i hi=>(g.other hb hne).trans (h3 i hi)⟩
theorem GB.trans {b o n:Nat} {w w' w'':World} (h:GB b o n w w') (k:GB b o n w' w''):GB b o n w w'':=
 ⟨⟨k.gx.os.trans h.gx.os,k.gx.tape.trans h.gx.tape,k.gx.output.trans h.gx.output,Nat.le_trans h.gx.size k.gx.size,fun i hi hn=>(k.gx.block i (Nat.lt_of_lt_of_le hi h.gx.size) hn).trans (h.gx.block i hi hn)⟩,
  fun i hi=>(k.cell i hi).trans (h.cell i hi),fun i=>(k.frozen i).trans (h.frozen i)⟩
theorem At.gr {w w':World} {b o:Nat} {l:List Nat} (h:At w b o l) (g:G w w'):At w' b o l:=
 ⟨h.ok,Nat.lt_of_lt_of_le h.hb g.size,h.row.G h.hb g,fun i hi=>g.frozen h.hb (h.free i hi)⟩
/-- The first words of a long number. -/
theorem q9V {l:List Nat} {n:Nat} (h:l.length=n+2) (hok:okw l):val l<(l.getD (n+1) 0*2^64+l.getD n 0+1)*2^(64*n):=by
 have h1:=q0t (l:=l) (k:=n) (by omega);have h2:=q0h (l:=l) (k:=n+1) (by omega);rw[List.drop_eq_nil_of_le (show l.length≤n+1+1 by omega)] at h2;have h3:=q0u hok n (by omega);rw[h2,q1h] at h1;rw[h1,Nat.add_mul,Nat.one_mul,Nat.mul_comm (l.getD (n+1) 0),Nat.add_comm (2^64*_),Nat.mul_comm (2^(64*n))];omega
theorem qbA {l:List Nat} {n:Nat} (h:l.length=n+1):l.getD n 0*2^(64*n)≤val l:=by
 have h1:=q0t (l:=l) (k:=n) (by omega);rw[List.drop_eq_nil_of_le (show l.length≤n+1 by omega)] at h1;rw[h1,Nat.mul_comm];show _≤_+2^(64*n)*(l.getD n 0+2^64*0);rw[Nat.mul_zero,Nat.add_zero];exact Nat.le_add_left _ _
theorem q6Q {U V N t P:Nat} (h1:U<(N+1)*P) (h2:t*P≤V) (ht:0<t):U<(N/t+1)*V:=by
 have h3:=Nat.lt_div_mul_add ht (a:=N);have h4:N+1≤(N/t+1)*t:=by rw[Nat.add_mul,Nat.one_mul];omega
 generalize N/t+1=g at *;have h5:(N+1)*P≤g*t*P:=Nat.mul_le_mul_right _ h4;have h6:g*(t*P)≤g*V:=Nat.mul_le_mul_left _ h2;rw[Nat.mul_assoc] at h5;omega
theorem q7T {us vl:List Nat} {n:Nat} (hu:us.length=n+2) (hv:vl.length=n+1) (hok:okw us) (ht:0<vl.getD n 0):val us<((us.getD (n+1) 0*2^64+us.getD n 0)/vl.getD n 0+1)*val vl:=
 q6Q (q9V hu hok) (qbA hv) ht
/-- What the guesses keep to: the row cs of the number U, so many times V taken away; sp: too often. -/
def Guess (U V T g C:Nat) (sp:Bool):Prop:=U<(g+1)*V∧(sp=false→C+g*V=U)∧(sp=true→C+g*V=U+T∧U<g*V)
theorem Guess.start {U V T g C q:Nat} (h:U<(g+1)*V) (hC:C<T) (Ud:g*V<T) (he:U+T*q=C+g*V):Guess U V T g C (decide (0<q)):=by
 refine⟨h,fun hs=> ?_,fun hs=> ?_⟩
 ·have:q=0:=by have:=of_decide_eq_false hs;omega
  rw[this,Nat.mul_zero] at he;omega
 ·have h0:=of_decide_eq_true hs;have h1:q=1:=by
   by_cases h2:2≤q
   ·have:=Nat.mul_le_mul_left T h2;omega
   ·omega
  rw[h1,Nat.mul_one] at he;omega
theorem Guess.next {U V T g C C' q:Nat} (h:Guess U V T (g+1) C true) (hq:q≤1) (hC:C'<T) (he:C'+T*q=C+V):Guess U V T g C' (!(q==1)):=by
 obtain⟨h1,-,h3⟩:=h;obtain⟨h4,h5⟩:=h3 rfl;rw[Nat.add_mul,Nat.one_mul] at h4;refine⟨h5,fun hs=> ?_,fun hs=> ?_⟩
 ·have hq1:q=1:=by simpa using hs
  rw[hq1,Nat.mul_one] at he;omega
 ·have hq0:q=0:=by
   have:¬ q=1:=by simpa using hs
   omega
  rw[hq0,Nat.mul_zero] at he;omega
theorem Guess.fin {U V T g C:Nat} (hV:0<V) (h:Guess U V T g C false):U/V=g∧C=U%V:=by
 obtain⟨h1,h2,-⟩:=h;have h3:=h2 rfl;rw[Nat.add_mul,Nat.one_mul] at h1;have h4:C<V:=by omega
 rw[← h3,Nat.add_mul_div_right _ _ hV,Nat.div_eq_of_lt h4,Nat.add_mul_mod_self_right,Nat.mod_eq_of_lt h4];exact⟨by omega,rfl⟩
set_option maxHeartbeats 4000000 in
set_option maxRecDepth 100000 in
theorem qaj (w:World) (b o c bv ov cv:Nat) (us vl:List Nat) (n:Nat) (hn:n≤1000000) (oL:us.length=n+2) (hvl:vl.length=n+1) (hu:At w b o us) (hc:us.length≤c) (hv:Sl w (.slice (some ⟨bv,ov,none⟩) (n+1) cv) vl) (hne:bv≠b) (hbv:bv<w.heap.size)
  (ht:0<vl.getD n 0) (hU:val us<2^64*val vl):
  Calls Tryz.prog 190 #[.slice (some ⟨b,o,none⟩) (n+2) c,.slice (some ⟨bv,ov,none⟩) (n+1) cv] w (q8R w b o us (val vl)):=by
 have HU:Hid (At w b o us):=hu;have HV:Hid (Sl w (.slice (some ⟨bv,ov,none⟩) (n+1) cv) vl):=hv;have hx:=q05 hu.ok (n+1);have hx2:=q05 hu.ok n;have hy:=q05 hv.1 n;have hgt:=q7T oL hvl hu.ok ht;have c1:=hu.row (n+1) (by omega);have c2:=hu.row n (by omega);have c3:w.cell? ⟨bv,ov+n,none⟩=some (.int .u64 (vl.getD n 0:Nat)):=by
  rcases hv.2 with ⟨h1,-⟩|⟨b1,o1,cc,e,-,-,h3⟩
  ·rw[h1] at hvl;simp at hvl
  ·injection e with e1 e2 e3;injection e1 with e1;injection e1 with e1 e4;subst e1;subst e4;exact h3 n (by omega)
 have yX:Hid _:=hgt;have CW:Hid _:=hU;have qJ:Hid (0<val vl):=by
  show 0<val vl;have:=qbA hvl;have h2:0<vl.getD n 0*2^(64*n):=Nat.mul_pos ht (Nat.two_pow_pos _);omega
 have hb0:b<w.heap.size:=hu.hb;have hni:(n:Int)≤1000000:=by omega
 generalize us.getD (n+1) 0=x at *;generalize us.getD n 0=x2 at *;generalize vl.getD n 0=y at *;have hxi:(x:Int)≤18446744073709551615:=by omega
 clear hu hv hgt hU;by_cases hlt:x<y
 ·have uq:decide (x<y)=true:=by simp;exact hlt
  have kH:(x*2^64+x2)/y<2^64:=by rw[Nat.div_lt_iff_lt_mul ht];omega
  have zN:Hid (val us<((x*2^64+x2)/y+1)*val vl):=yX.out;have Sm:Hid (∀ w,Calls Tryz.prog 212 #[.int .u64 (x:Int),.int .u64 (x2:Int),.int .u64 (y:Int)] w fun e w'=>e= .returned (.tuple #[.int .u64 (((x*2^64+x2)/y:Nat):Int),.int .u64 (((x*2^64+x2)%y:Nat):Int)])∧G w w'):=fun w=>qaB w x x2 y hlt hx2 hy;generalize (x*2^64+x2)/y=g at *;generalize (x*2^64+x2)%y=rr at *;go_enter Tryz.func190,Tryz.ntmps190;go_wp2_with fail;refine q0f (by kernel_rfl) (by kernel_rfl) ?_;intro W hW;have hq1:=q08 (w:=W) (a:=⟨b,o+(n+1),none⟩) (x:= .int .u64 (x:Int)) (by rw[hW];first|(simp;done)|(simp;omega)|omega) (by rw[hW];first|assumption|(simp [go_sem];done)|(simp [*,go_sem];done));have hq2:=q08 (w:=W) (a:=⟨bv,ov+n,none⟩) (x:= .int .u64 (y:Int)) (by rw[hW];first|(simp;done)|(simp;omega)|omega) (by rw[hW];first|assumption|(simp [go_sem];done)|(simp [*,go_sem];done));clear hW
  repeat (go_big_quiet_step (fail))
  refine wpQuiet_nil ?_;clear hq1 hq2;intro w2 hw2;have c1':=hw2.cell hb0 c1;have c2':=hw2.cell hb0 c2;have c3':=hw2.cell hbv c3;have hs1:=Nat.lt_of_lt_of_le hb0 hw2.size;have hs2:=Nat.lt_of_lt_of_le hbv hw2.size;clear c1 c2 c3;go_wp2_with fail;refine q0f (by kernel_rfl) (by kernel_rfl) ?_;intro W hW;have hq3:=q08 (w:=W) (a:=⟨b,o+(n+1),none⟩) (x:= .int .u64 (x:Int)) (by rw[hW];first|(simp;done)|(simp;omega)|omega) (by rw[hW];first|assumption|(simp [go_sem];done)|(simp [*,go_sem];done));have hq4:=q08 (w:=W) (a:=⟨b,o+n,none⟩) (x:= .int .u64 (x2:Int)) (by rw[hW];first|(simp;done)|(simp;omega)|omega) (by rw[hW];first|assumption|(simp [go_sem];done)|(simp [*,go_sem];done));have pQ:=q08 (w:=W) (a:=⟨bv,ov+n,none⟩) (x:= .int .u64 (y:Int)) (by rw[hW];first|(simp;done)|(simp;omega)|omega) (by rw[hW];first|assumption|(simp [go_sem];done)|(simp [*,go_sem];done));clear hW
  repeat (go_big_quiet_step ((go_at_call 212;exact q2u (Sm.out _))))
  refine wpQuiet_nil ?_;clear hq3 hq4 pQ;intro w3 hw3;have sO:=G.trans hw2 hw3;have HW3:Hid (G w w3):=sO;have hs3:bv<w3.heap.size:=Nat.lt_of_lt_of_le hbv sO.size;have Ef:Hid (At w3 b o us):=HU.out.gr sO;have zO:Hid (Sl w3 (.slice (some ⟨bv,ov,none⟩) (n+1) cv) vl):=HV.out.G sO;clear sO hw2 hw3 c1' c2' c3' hs1 hs2 hlt uq hx hx2 hy hxi yX
  -- g: the guess (a word); zN : val us < (g + 1) * val vl
  have zP:Hid _:=q4a w3 b o c (.slice (some ⟨bv,ov,none⟩) (n+1) cv) us vl g kH Ef.out hc zO.out (fun b2 o2 n2 c2 e _=>by injection e with e;injection e with e;injection e with e1 e2;omega) (by omega) (by omega);rw[oL] at zP;have kN:Hid (us.length=n+2):=oL;have kv:Hid (vl.length=n+1):=hvl;have og:Hid (g<2^64):=kH;have gJ:Hid (bv≠b):=hne;have JW:Hid (n+2≤c):=by show n+2≤c;omega
  have kR:Hid (bv<w.heap.size):=hbv;clear oL hvl hc kH hne hbv hs3 hb0 CW;go_wp2_with fail;refine q00 zP.out ?_;rintro e w4 ⟨cs,q,rfl,hcl,hAt,fD,hval⟩;rw[kN.out] at hcl fD hval;have sP:val cs<2^(64*(n+2)):=by have:=q0v hAt.ok;rwa[hcl] at this
  have Eg:g*val vl<2^(64*(n+2)):=by
   have h1:=q0v zO.out.1;rw[kv.out] at h1;have h2:g*val vl<2^64*2^(64*(n+1)):=Nat.mul_lt_mul'' og.out h1;rw[← Nat.pow_add,show 64+64*(n+1)=64*(n+2) from by omega] at h2;exact h2
  have sQ:Hid (Guess (val us) (val vl) (2^(64*(n+2))) g (val cs) (decide (0<q))):=Guess.start zN.out sP Eg hval;have sS:Hid (At w4 b o cs):=hAt;have pY:Hid (GB b o (n+2) w w4):=GB.trans (GB.of HW3.out HU.out.hb) fD;have nA:Hid (cs.length=n+2):=hcl;generalize decide (0<q)=sp at *;clear sP Eg hAt fD hval hcl zP Ef zO zN;go_wp2_with fail
  go_loopw [6,7] (fun vg vs wr=>∃ (g:Nat) (sp:Bool) (cs:List Nat),vg= .int .u64 g∧vs= .bool sp∧g<2^64∧cs.length=n+2∧At wr b o cs∧GB b o (n+2) w wr∧Guess (val us) (val vl) (2^(64*(n+2))) g (val cs) sp) (fun vg _ _=>(intOf vg).toNat)
  case atStart=>exact⟨g,sp,cs,rfl,rfl,og.out,nA.out,sS.out,pY.out,sQ.out⟩
  case round=>
   clear sS pY nA sQ og;obtain⟨g,sp,cs,rfl,rfl,kH,hcl,hAt,fD,hgu⟩:=hrel;have sS:Hid (At wr b o cs):=hAt;have pY:Hid (GB b o (n+2) w wr):=fD;have nA:Hid (cs.length=n+2):=hcl;have Eh:Hid _:=Sl.gb HV.out fD gJ.out kR.out;have hgi:(g:Int)≤18446744073709551615:=by omega
   cases sp
   ·obtain⟨f1,f2⟩:=Guess.fin qJ.out hgu;have F1:Hid _:=f1;have F2:Hid _:=f2;clear hgu hAt fD hcl f1 f2;go_wp2_with fail;go_ret;exact⟨cs,q0x (by rw[F1.out]),by rw[nA.out,kN.out],sS.out,by rw[kN.out];exact pY.out,F2.out⟩
   ·obtain⟨g',rfl⟩:∃ g',g=g'+1:=by
     rcases g with _|g'
     ·have:=(hgu.2.2 rfl).2;rw[Nat.zero_mul] at this;omega
     ·exact⟨g',rfl⟩
    have sQ:Hid (Guess (val us) (val vl) (2^(64*(n+2))) (g'+1) (val cs) true):=hgu;have zQ:Hid _:=q81 wr b o c (.slice (some ⟨bv,ov,none⟩) (n+1) cv) cs vl hAt (by have:=JW.out;omega) Eh.out (fun b2 o2 n2 c2 e _=>by injection e with e;injection e with e;injection e with e1 e2;have:=gJ.out;omega) (by have:=kv.out;omega) (by omega);rw[hcl] at zQ;clear hgu hAt fD hcl;have hgm:IntKind.u64.wrap (((g'+1:Nat):Int)-1)=g':=by rw[IntKind.wrap_u64];omega
    have JX:(g':Int)+1≤18446744073709551615:=by omega
    go_wp2_with fail;refine q00 zQ.out ?_;rintro e w5 ⟨cs2,q,rfl,hq1,iD,hAt2,oh,jK⟩;rw[nA.out] at iD oh jK;have sP:val cs2<2^(64*(n+2)):=by have:=q0v hAt2.ok;rwa[iD] at this
    have HN:Hid (Guess (val us) (val vl) (2^(64*(n+2))) g' (val cs2) (!(q==1))):=Guess.next sQ.out hq1 sP jK;have JY:Hid (At w5 b o cs2):=hAt2;have JZ:Hid (GB b o (n+2) w w5):=GB.trans pY.out oh;have K4:Hid (cs2.length=n+2):=iD;generalize (q==1)=qb at *;clear sP hAt2 oh jK iD sQ sS pY nA zQ Eh;go_wp2_with fail
    go_roundw
    case rel=>exact⟨g', !qb,cs2,by go_num,rfl,by omega,K4.out,JY.out,JZ.out,HN.out⟩
    case measure=>simp [intOf]
 ·have uq:decide (x<y)=false:=by simp;omega
  have kH:(18446744073709551615:Nat)<2^64:=by omega
  obtain⟨g,hgv⟩:∃ g:Nat,g=18446744073709551615:=⟨_,rfl⟩;go_enter Tryz.func190,Tryz.ntmps190;go_wp2_with fail;refine q0f (by kernel_rfl) (by kernel_rfl) ?_;intro W hW;have qp:=q08 (w:=W) (a:=⟨b,o+(n+1),none⟩) (x:= .int .u64 (x:Int)) (by rw[hW];first|(simp;done)|(simp;omega)|omega) (by rw[hW];first|assumption|(simp [go_sem];done)|(simp [*,go_sem];done));have qw:=q08 (w:=W) (a:=⟨bv,ov+n,none⟩) (x:= .int .u64 (y:Int)) (by rw[hW];first|(simp;done)|(simp;omega)|omega) (by rw[hW];first|assumption|(simp [go_sem];done)|(simp [*,go_sem];done));clear hW
  repeat (go_big_quiet_step (fail))
  refine wpQuiet_nil ?_;clear qp qw;intro w3 hw3;have HW3:Hid (G w w3):=hw3;have hs3:bv<w3.heap.size:=Nat.lt_of_lt_of_le hbv hw3.size;have Ef:Hid (At w3 b o us):=HU.out.gr hw3;have zO:Hid (Sl w3 (.slice (some ⟨bv,ov,none⟩) (n+1) cv) vl):=HV.out.G hw3;have zN:Hid (val us<(g+1)*val vl):=by show val us<(g+1)*val vl;rw[hgv];exact CW.out
  have Ei:(18446744073709551615:Int)=(g:Int):=by rw[hgv];rfl
  rw[← hgv] at kH;clear hw3 c1 c2 c3 hlt uq hx hx2 hy hxi yX;rw[Ei];clear Ei hgv
  -- g: the guess (a word); zN : val us < (g + 1) * val vl
  have zP:Hid _:=q4a w3 b o c (.slice (some ⟨bv,ov,none⟩) (n+1) cv) us vl g kH Ef.out hc zO.out (fun b2 o2 n2 c2 e _=>by injection e with e;injection e with e;injection e with e1 e2;omega) (by omega) (by omega);rw[oL] at zP;have kN:Hid (us.length=n+2):=oL;have kv:Hid (vl.length=n+1):=hvl;have og:Hid (g<2^64):=kH;have gJ:Hid (bv≠b):=hne;have JW:Hid (n+2≤c):=by show n+2≤c;omega
  have kR:Hid (bv<w.heap.size):=hbv;clear oL hvl hc kH hne hbv hs3 hb0 CW;go_wp2_with fail;refine q00 zP.out ?_;rintro e w4 ⟨cs,q,rfl,hcl,hAt,fD,hval⟩;rw[kN.out] at hcl fD hval;have sP:val cs<2^(64*(n+2)):=by have:=q0v hAt.ok;rwa[hcl] at this
  have Eg:g*val vl<2^(64*(n+2)):=by
   have h1:=q0v zO.out.1;rw[kv.out] at h1;have h2:g*val vl<2^64*2^(64*(n+1)):=Nat.mul_lt_mul'' og.out h1;rw[← Nat.pow_add,show 64+64*(n+1)=64*(n+2) from by omega] at h2;exact h2
  have sQ:Hid (Guess (val us) (val vl) (2^(64*(n+2))) g (val cs) (decide (0<q))):=Guess.start zN.out sP Eg hval;have sS:Hid (At w4 b o cs):=hAt;have pY:Hid (GB b o (n+2) w w4):=GB.trans (GB.of HW3.out HU.out.hb) fD;have nA:Hid (cs.length=n+2):=hcl;generalize decide (0<q)=sp at *;clear sP Eg hAt fD hval hcl zP Ef zO zN;go_wp2_with fail
  go_loopw [6,7] (fun vg vs wr=>∃ (g:Nat) (sp:Bool) (cs:List Nat),vg= .int .u64 g∧vs= .bool sp∧g<2^64∧cs.length=n+2∧At wr b o cs∧GB b o (n+2) w wr∧Guess (val us) (val vl) (2^(64*(n+2))) g (val cs) sp) (fun vg _ _=>(intOf vg).toNat)
  case atStart=>exact⟨g,sp,cs,rfl,rfl,og.out,nA.out,sS.out,pY.out,sQ.out⟩
  case round=>
   clear sS pY nA sQ og;obtain⟨g,sp,cs,rfl,rfl,kH,hcl,hAt,fD,hgu⟩:=hrel;have sS:Hid (At wr b o cs):=hAt;have pY:Hid (GB b o (n+2) w wr):=fD;have nA:Hid (cs.length=n+2):=hcl;have Eh:Hid _:=Sl.gb HV.out fD gJ.out kR.out;have hgi:(g:Int)≤18446744073709551615:=by omega
   cases sp
   ·obtain⟨f1,f2⟩:=Guess.fin qJ.out hgu;have F1:Hid _:=f1;have F2:Hid _:=f2;clear hgu hAt fD hcl f1 f2;go_wp2_with fail;go_ret;exact⟨cs,q0x (by rw[F1.out]),by rw[nA.out,kN.out],sS.out,by rw[kN.out];exact pY.out,F2.out⟩
   ·obtain⟨g',rfl⟩:∃ g',g=g'+1:=by
     rcases g with _|g'
     ·have:=(hgu.2.2 rfl).2;rw[Nat.zero_mul] at this;omega
     ·exact⟨g',rfl⟩
    have sQ:Hid (Guess (val us) (val vl) (2^(64*(n+2))) (g'+1) (val cs) true):=hgu;have zQ:Hid _:=q81 wr b o c (.slice (some ⟨bv,ov,none⟩) (n+1) cv) cs vl hAt (by have:=JW.out;omega) Eh.out (fun b2 o2 n2 c2 e _=>by injection e with e;injection e with e;injection e with e1 e2;have:=gJ.out;omega) (by have:=kv.out;omega) (by omega);rw[hcl] at zQ;clear hgu hAt fD hcl;have hgm:IntKind.u64.wrap (((g'+1:Nat):Int)-1)=g':=by rw[IntKind.wrap_u64];omega
    have JX:(g':Int)+1≤18446744073709551615:=by omega
    go_wp2_with fail;refine q00 zQ.out ?_;rintro e w5 ⟨cs2,q,rfl,hq1,iD,hAt2,oh,jK⟩;rw[nA.out] at iD oh jK;have sP:val cs2<2^(64*(n+2)):=by have:=q0v hAt2.ok;rwa[iD] at this
    have HN:Hid (Guess (val us) (val vl) (2^(64*(n+2))) g' (val cs2) (!(q==1))):=Guess.next sQ.out hq1 sP jK;have JY:Hid (At w5 b o cs2):=hAt2;have JZ:Hid (GB b o (n+2) w w5):=GB.trans pY.out oh;have K4:Hid (cs2.length=n+2):=iD;generalize (q==1)=qb at *;clear sP hAt2 oh jK iD sQ sS pY nA zQ Eh;go_wp2_with fail
    go_roundw
    case rel=>exact⟨g', !qb,cs2,by go_num,rfl,by omega,K4.out,JY.out,JZ.out,HN.out⟩
    case measure=>simp [intOf]
/-- What holds ahead of digit t - 1. -/
def DI (us qs:List Nat) (t N M V A:Nat):Prop:=us.length=N∧qs.length=M∧val us<2^(64*t)*V∧val us+val (qs.drop t)*(2^(64*t)*V)=A
theorem DI.start {us:List Nat} {N M V A:Nat} (hl:us.length=N) (hv:val us=A) (hA:A<2^(64*M)*V):DI us (List.replicate M 0) M N M V A:=by
 refine⟨hl,by simp,by rw[hv];exact hA,?_⟩;rw[List.drop_eq_nil_of_le (by simp)];simp [val,hv]
theorem qav {low S V P q r Z A X:Nat} (hX:X=low+P*S) (hq:q*V+r=S) (hA:X+Z*(2^64*P*V)=A):low+P*r+(q+2^64*Z)*(P*V)=A:=by
 rw[← hA,hX,← hq,Nat.mul_add,Nat.add_mul];have e1:P*(q*V)=q*(P*V):=by ac_rfl
 have e2:2^64*Z*(P*V)=Z*(2^64*P*V):=by
  generalize (2:Nat)^64=B
  ac_rfl
 rw[e1,e2];omega
theorem DI.step {us qs cs:List Nat} {j n N M V A:Nat} (h:DI us qs (j+1) N M V A) (hok:okw us) (hj:j<M) (hN:j+(n+1)≤N) (hV:V<2^(64*n)) (o9:0<V):
  val ((us.drop j).take (n+1))<2^64*V∧
  (cs.length=n+1→val cs=val ((us.drop j).take (n+1))%V→DI (us.take j++(cs++us.drop (j+(n+1)))) (qs.set j (val ((us.drop j).take (n+1))/V)) j N M V A):=by
 obtain⟨h1,h2,h3,h4⟩:=h;have hp:=q3B us j (n+1) (by omega);have hlow:=q0u hok j (by omega);have hP:=Nat.two_pow_pos (64*j);have hjp:2^(64*(j+1))=2^64*2^(64*j):=by rw[← Nat.pow_add];congr 1;omega
 have hz:val (us.drop (j+(n+1)))=0:=by
  rw[q1m hok];refine Nat.div_eq_of_lt ?_;have h5:2^(64*(j+1))*V≤2^(64*(j+1))*2^(64*n):=Nat.mul_le_mul_left _ (Nat.le_of_lt hV);rw[← Nat.pow_add,show 64*(j+1)+64*n=64*(j+(n+1)) from by omega] at h5;omega
 rw[hz,Nat.mul_zero,Nat.add_zero] at hp;generalize hS:val ((us.drop j).take (n+1))=S at *;generalize hL:val (us.take j)=low at *;constructor
 ·refine Nat.lt_of_mul_lt_mul_left (a:=2^(64*j)) ?_;rw[show 2^(64*j)*(2^64*V)=2^(64*(j+1))*V from by rw[hjp,Nat.mul_left_comm,Nat.mul_assoc]];omega
 ·intro hcl hcv;have hm:=Nat.mod_lt S o9;have hd:=Nat.div_add_mod S V;have sN:=q9a (l:=us) (cs:=cs) (i:=j) (n:=n+1) hcl (by omega);simp only[hz,Nat.mul_zero,Nat.add_zero,hcv,hL] at sN;refine⟨?_,by rw[List.length_set,h2],?_,?_⟩
  ·rw[List.length_append,List.length_append,List.length_take,List.length_drop,hcl];omega
  ·rw[sN];have h6:2^(64*j)*(S%V)+2^(64*j)≤2^(64*j)*V:=by
    have:=Nat.mul_le_mul_left (2^(64*j)) hm;rw[Nat.mul_succ] at this;exact this
   omega
  ·rw[sN,q0h (l:=qs.set j (S/V)) (by rw[List.length_set];omega),q0g (by omega),List.drop_set_of_lt (by omega)];show _+(S/V+2^64*val (qs.drop (j+1)))*_=A;rw[Nat.mul_comm V] at hd;refine qav (X:=val us) hp hd ?_;rw[← hjp];exact h4
theorem DI.fin {us qs:List Nat} {N M a b p:Nat} (h:DI us qs 0 N M (b*p) (a*p)) (hp:0<p) (hb:0<b):val qs=a/b∧val us=(a%b)*p:=by
 obtain⟨-,-,h3,h4⟩:=h;simp only[Nat.mul_zero,Nat.pow_zero,Nat.one_mul,List.drop_zero] at h3 h4;have h5:a*p/(b*p)=val qs:=by
  rw[← h4,Nat.add_mul_div_right _ _ (Nat.mul_pos hb hp),Nat.div_eq_of_lt h3,Nat.zero_add]
 have h6:a*p%(b*p)=val us:=by
  rw[← h4,Nat.add_mul_mod_self_right,Nat.mod_eq_of_lt h3]
 rw[Nat.mul_div_mul_right _ _ hp] at h5;rw[Nat.mul_mod_mul_right] at h6;exact⟨h5.symm,h6.symm⟩
/-- The shift that brings a number's highest bit to the top of its last word. -/
theorem q3h {l:List Nat} {n:Nat} (h:canon l) (hn:l.length=n+1):∃ s:Nat,s≤63∧(s:Int)=64-(Lib.bitLen (l.getD n 0):Int)∧val l*2^s<2^(64*(n+1))∧2^(64*n)≤val l∧2^(64*n)≤val l*2^s:=by
 have h0:=q28 h hn;have hx:=q05 h.1 n;obtain⟨s,s1,s2,s3,s4⟩:=q3O (by omega:0<l.getD n 0) hx;have h1:=q0t (l:=l) (k:=n) (by omega);rw[List.drop_eq_nil_of_le (show l.length≤n+1 by omega)] at h1;have h1':val l=val (l.take n)+2^(64*n)*l.getD n 0:=h1;have h2:=q0u h.1 n (by omega);have hp:=Nat.two_pow_pos s;generalize l.getD n 0=x at *;have h3:val l<2^(64*n)*(x+1):=by rw[Nat.mul_add,Nat.mul_one];omega
 have hge:2^(64*n)*1≤2^(64*n)*x:=Nat.mul_le_mul_left _ (by omega);have h4:(x+1)*2^s≤2^64:=by
  have e:(2:Nat)^64=2^(64-s)*2^s:=by rw[← Nat.pow_add];congr 1;omega
  rw[e] at s4 ⊢;exact Nat.mul_le_mul_right _ (Nat.lt_of_mul_lt_mul_right s4)
 refine⟨s,s1,s2,?_,by omega,?_⟩
 ·have h5:val l*2^s<2^(64*n)*(x+1)*2^s:=Nat.mul_lt_mul_of_pos_right h3 hp;have h6:2^(64*n)*((x+1)*2^s)≤2^(64*n)*2^64:=Nat.mul_le_mul_left _ h4;rw[← Nat.pow_add,show 64*n+64=64*(n+1) from by omega] at h6;rw[Nat.mul_assoc] at h5;omega
 ·have h7:val l*1≤val l*2^s:=Nat.mul_le_mul_left _ hp;omega
end Go.Proofs.YtbfjihniphldaaaGreatDoor.EN
