/- What is proved here: contracts of the reference's big numbers: div, all its ways, over this seat's translation.
What is proved here: contracts of the reference's big numbers: common (the greatest divisor), over this seat's translation. -/
import Derived.Test.YtbfjihniphldaaaGreatDoorC14
import Derived.Test.YtbfjihniphldaaaGreatDoorC25
namespace Go.Proofs.YtbfjihniphldaaaGreatDoor
open Go.ChangeShapes Go.WideShapes Go.ChangeAt Go.RowKit
open BN
theorem q4R {l:List Nat} (h:canon l) {k:Nat} (hv:2^(32*k)≤val l):k<l.length:=by
 rcases Nat.lt_or_ge k l.length with h1|h1
 ·exact h1
 ·have h2:=q0v h.1;have h3:2^(32*l.length)≤2^(32*k):=Nat.pow_le_pow_right (by omega) (by omega);omega
set_option maxRecDepth 10000 in
theorem q9k (w:World) (va vb:Value) (a b K:Nat) (hK:K≤300000) (ha:Num w va a) (hb:Num w vb b) (ha2:a<2^(32*K)) (hb2:b<2^(32*K)) (gX:a<b):
  Calls Tryz.prog 175 #[va,vb] w (q2j w (a/b) (a%b)):=by
 have jf:Hid _:=q2H w _ _ a b K (by omega) ha hb ha2 hb2;have Pm:Hid (∀ w1,G w w1→_):=fun w1 g=>q67 w1 _ a K (by omega) (ha.G g) ha2;obtain⟨m,hm,hcm,iG⟩:=hb;have hn0:m.length≠0:=by
  intro h;have:=List.eq_nil_of_length_eq_zero h;rw[this] at iG;simp [val] at iG;omega
 obtain⟨pb,cb,rfl,hcb,-⟩:=q0n hm;have hc:decide (cmpV a b<0)=true:=by rw[decide_eq_true_iff];unfold cmpV;rw[if_pos gX];omega
 have h1:a/b=0:=Nat.div_eq_of_lt gX;have h2:a%b=a:=Nat.mod_eq_of_lt gX;rw[h1,h2];generalize cmpV a b=cv at *;generalize m.length=n at *;have t2:((n:Int)==0)=false:=by simp;omega
 clear hm hcm iG gX hb2 ha2 ha h1 h2 hn0;go_enter Tryz.func175,Tryz.ntmps175;go_wp2_with fail;refine q00 jf.out ?_;rintro e1 w1 ⟨rfl,hg1⟩;go_wp2_with fail;refine q00 (Pm.out w1 hg1) ?_;rintro e1 w2 ⟨v2,rfl,hg2,hn2⟩;go_wp2_with fail
 go_ret2
 exact⟨_,_,rfl,G.trans hg1 hg2,num_nil _ _ _,hn2⟩
set_option maxRecDepth 10000 in
theorem qaQ (w:World) (va vb:Value) (a b:Nat) (ha:Num w va a) (hb:Num w vb b) (ha2:a<2^64) (gX:b≤a) (hb0:0<b):
  Calls Tryz.prog 175 #[va,vb] w (q2j w (a/b) (a%b)):=by
 have hdv:a/b<2^64:=Nat.lt_of_le_of_lt (Nat.div_le_self _ _) ha2;have hmd:a%b<2^64:=Nat.lt_of_le_of_lt (Nat.mod_le _ _) ha2;have jf:Hid _:=q2H w _ _ a b 2 (by omega) ha hb ha2 (by omega);have iR:Hid (∀ w1,G w w1→_):=fun w1 g=>q2X w1 _ a (ha.G g);have nU:Hid (∀ w1,G w w1→_):=fun w1 g=>q2X w1 _ b (hb.G g);have HQ:Hid (∀ w1,_):=fun w1=>q2T w1 (a/b) hdv;have HR:Hid (∀ w1,_):=fun w1=>q2T w1 (a%b) hmd;rw[Nat.mod_eq_of_lt (show a<2^64 from ha2)] at iR;rw[Nat.mod_eq_of_lt (show b<2^64 by omega)] at nU;obtain⟨l,hl,hcl,hvl⟩:=ha;have hl2:=q06 hcl (k:=2) (by rw[hvl];exact ha2);obtain⟨m,hm,hcm,iG⟩:=hb;have hn0:m.length≠0:=by
  intro h;have:=List.eq_nil_of_length_eq_zero h;rw[this] at iG;simp [val] at iG;omega
 obtain⟨pa,ca,rfl,dL,-⟩:=q0n hl;obtain⟨pb,cb,rfl,hcb,-⟩:=q0n hm;have hc:decide (cmpV a b<0)=false:=by rw[decide_eq_false_iff_not];unfold cmpV;rw[if_neg (by omega)];split<;>omega
 generalize cmpV a b=cv at *;generalize m.length=n at *;generalize l.length=j at *;have t2:((n:Int)==0)=false:=by simp;omega
 have t1:decide ((j:Int)≤2)=true:=by simp;omega
 have hab:(a:Int)≤18446744073709551615:=by omega
 have hbb:(b:Int)≤18446744073709551615:=by omega
 have hbn:((b:Int)==0)=false:=by simp;omega
 have hb1:(1:Int)≤b:=by omega
 have Pn:b≠0:=by omega
 have hdi:IntKind.u64.wrap ((a:Int)/b)=((a/b:Nat):Int):=by rw[IntKind.wrap_u64,← Int.natCast_ediv];generalize a/b=q at *;omega
 have AL:(a:Int)%b=((a%b:Nat):Int):=by rw[← Int.natCast_emod]
 have Po:(a:Int).tmod b=((a%b:Nat):Int):=by rw[Int.tmod_eq_emod_of_nonneg (by omega)];exact AL
 have yM:IntKind.u64.wrap ((a:Int).tdiv b)=((a/b:Nat):Int):=by rw[Int.tdiv_eq_ediv_of_nonneg (by omega)];exact hdi
 generalize a/b=dq at *;generalize a%b=dr at *;clear hm hcm iG gX ha2 hn0 hl hcl hvl hl2 hb0 hdv hmd;go_enter Tryz.func175,Tryz.ntmps175;go_wp2_with fail;refine q00 jf.out ?_;rintro e1 w1 ⟨rfl,hg1⟩;go_wp2_with fail;refine q00 (iR.out w1 hg1) ?_;rintro e1 w2 ⟨rfl,hg2⟩;go_wp2_with fail;refine q00 (nU.out w2 (G.trans hg1 hg2)) ?_;rintro e1 w3 ⟨rfl,hg3⟩;have hG3:=G.trans hg1 (G.trans hg2 hg3);clear hg1 hg2 hg3;go_wp2_with fail
 go_region_with
  (first
   |(go_at_call_of 177 dq;refine q00 (HQ.out _) ?_;rintro e1 wn ⟨vn,rfl,hgn,hnn⟩)
   |(go_at_call_of 177 dr;refine q00 (HR.out _) ?_;rintro e1 wn ⟨vn,rfl,hgn,hnn⟩))
 all_goals
  go_wp2_with fail
  go_ret2
  exact⟨_,_,rfl,G.trans hG3 (by repeat' (first|exact G.refl _|assumption|refine G.alloc ?_ _|refine G.drew ?_ |refine G.drewN ?_ _|(refine G.trans ?_ (by assumption)))),(by first|assumption|exact Num.G (by assumption) (by assumption)),(by first|assumption|exact Num.G (by assumption) (by assumption))⟩
theorem q3V (w:World) (d:Nat) (e:TypeId) (h0:d<2^32):Sl (w.alloc (.cells #[.int .u32 (d:Int)] e)) (.slice (some ⟨w.heap.size,0,none⟩) 1 1) [d]:=by
 refine⟨fun x hx=> ?_,Or.inr ⟨w.heap.size,0,1,rfl,Nat.le_refl _,by simp,fun i hi=> ?_⟩⟩
 ·simp at hx;rw[hx];exact h0
 ·rw[Nat.zero_add,World.cell?_alloc_at _ _ _ _ rfl];have:i=0:=by simp at hi;omega
  subst this;rfl
set_option maxRecDepth 10000 in
theorem q8K (w:World) (va vb:Value) (a b K:Nat) (hK:K≤300000) (ha:Num w va a) (hb:Num w vb b) (ha2:a<2^(32*K)) (gX:b≤a) (hbig:2^64≤a) (hb0:0<b) (hb2:b<2^32):
  Calls Tryz.prog 175 #[va,vb] w (q2j w (a/b) (a%b)):=by
 have hmd:a%b<2^32:=Nat.lt_of_lt_of_le (Nat.mod_lt _ hb0) (by omega);have jf:Hid _:=q2H w _ _ a b K (by omega) ha hb ha2 (by omega);have Pp:Hid (∀ w1,G w w1→_):=fun w1 g=>qa7 w1 _ a b K (by omega) hb0 hb2 (ha.G g) ha2;have MM:Hid (∀ w1,_):=fun w1=>trim_c _ _ _ (q3V w1 (a%b) 187 hmd) (by simp);rw[show val [a%b]=a%b from by simp [val]] at MM;obtain⟨l,hl,hcl,hvl⟩:=ha;have hl2:=q4R hcl (k:=2) (by rw[hvl];exact hbig);have hlk:=q06 hcl (k:=K) (by rw[hvl];exact ha2);obtain⟨m,hm,hcm,iG⟩:=hb;have hn1:m.length=1:=by
  have h1:=q06 hcm (k:=1) (by rw[iG];exact hb2);have h2:m.length≠0:=by
   intro h;have:=List.eq_nil_of_length_eq_zero h;rw[this] at iG;simp [val] at iG;omega
  omega
 obtain⟨pa,ca,rfl,dL,-⟩:=q0n hl;obtain⟨pb,cb,rfl,hcb,hrb⟩:=q0n hm;obtain⟨b0,o0,rfl,IA,hc0⟩:=hrb 0 (by omega);have hmb:m.getD 0 0=b:=by
  obtain⟨x,rfl⟩:=List.length_eq_one_iff.1 hn1;rw[q1h] at iG;simpa using iG
 rw[hmb] at hc0;rw[Nat.add_zero] at hc0;have hc:decide (cmpV a b<0)=false:=by rw[decide_eq_false_iff_not];unfold cmpV;rw[if_neg (by omega)];split<;>omega
 generalize cmpV a b=cv at *;rw[hn1] at *;generalize l.length=j at *;have t1:decide ((j:Int)≤2)=false:=by simp;omega
 have hjb:(j:Int)≤300000:=by omega
 have hbb:(b:Int)≤4294967295:=by omega
 have Pq:((a%b:Nat):Int)≤4294967295:=by omega
 generalize a/b=dq at *;generalize a%b=dr at *;clear hm hcm iG gX ha2 hn1 hl hcl hvl hl2 hb0 hmd hmb hrb hbig hlk hb2;go_enter Tryz.func175,Tryz.ntmps175;go_wp2_with fail;refine q00 jf.out ?_;rintro e1 w1 ⟨rfl,hg1⟩;have hc1:=hg1.cell IA hc0;clear hc0;go_wp2_with fail;refine q00 (Pp.out w1 hg1) ?_;rintro e1 w2 ⟨v2,rfl,hg2,hn2⟩;go_wp2_with fail;refine q00 (MM.out w2) ?_;rintro e1 w3 ⟨v3,rfl,hg3,iF⟩;have hg3':=G.trans ((G.refl w2).alloc (.cells #[.int .u32 (dr:Int)] 187)) hg3;go_wp2_with fail
 go_ret2
 exact⟨_,_,rfl,G.trans hg1 (G.trans hg2 hg3'),hn2.G hg3',iF⟩
/-- Division of the reference's big numbers. -/
theorem q6F (w:World) (va vb:Value) (a b K:Nat) (hK:K≤300000) (ha:Num w va a) (hb:Num w vb b) (ha2:a<2^(32*K)) (hb2:b<2^(32*K)) (hb0:0<b):
  Calls Tryz.prog 175 #[va,vb] w (q2j w (a/b) (a%b)):=by
 rcases Nat.lt_or_ge a b with hab|hab
 ·exact q9k w va vb a b K hK ha hb ha2 hb2 hab
 ·rcases Nat.lt_or_ge a (2^64) with h64|h64
  ·exact qaQ w va vb a b ha hb h64 hab hb0
  ·rcases Nat.lt_or_ge b (2^32) with h32|h32
   ·exact q8K w va vb a b K hK ha hb ha2 hab h64 hb0 h32
   ·exact q89 w va vb a b K hK ha hb ha2 hab h64 h32
/-- The number that a slice of words holds. -/
def numV (w:World):Value→Nat
 | .slice (some a) n _=>val ((List.range n).map fun i=>match w.cell? ⟨a.block,a.off+i,none⟩ with
  |some (.int _ z)=>z.toNat
  |_=>0)
 |_=>0
theorem q1O {w:World} {v:Value} {n:Nat} (h:Num w v n):numV w v=n:=by
 obtain⟨l,hl,-,rfl⟩:=h;rcases Sl.cases hl with ⟨rfl,a,c,rfl⟩|⟨-,b,o,c,rfl,-,-,hr⟩
 ·cases a<;>rfl
 ·show val _=val l
  congr 1
  refine List.ext_getElem (by simp) fun i h1 h2=> ?_;rw[List.getElem_map,List.getElem_range];rw[hr i h2];simp [List.getD_eq_getElem?_getD,h2]
theorem gcd_swap {X Y:Nat}:Nat.gcd Y (X%Y)=Nat.gcd Y X:=by
 rw[Nat.gcd_comm Y (X%Y),← Nat.gcd_rec]
set_option maxRecDepth 10000 in
theorem q1U (w:World) (va vb:Value) (a b K:Nat) (hK:K≤300000) (ha:Num w va a) (hb:Num w vb b) (ha0:0<a) (ha2:a<2^(32*K)) (hb2:b<2^(32*K)):
  Calls Tryz.prog 174 #[va,vb] w (q0e w (Nat.gcd a b)):=by
 have HA:Hid _:=ha;have HB:Hid _:=hb;have HA2:Hid _:=ha2;have HB2:Hid _:=hb2;have jU:Hid (0<a):=ha0;clear ha hb ha2 hb2 ha0;go_enter Tryz.func174,Tryz.ntmps174;go_wp2_with fail
 go_loopw [0,1] (fun va vb wr=>∃ A B:Nat,Num wr va A∧Num wr vb B∧0<A∧A<2^(32*K)∧B<2^(32*K)∧Nat.gcd A B=Nat.gcd a b∧G w wr) (fun _ vb wr=>numV wr vb)
 case atStart=>exact⟨a,b,HA.out,HB.out,jU.out,HA2.out,HB2.out,rfl,G.refl _⟩
 case round=>
  obtain⟨A,B,hA,hB,fH,hA2,hB2,hg,hG⟩:=hrel;have Cq:Hid (Num wr u0 A):=hA;have uz:Hid (Num wr u1 B):=hB;obtain⟨l,hl,hcl,hlv⟩:=hB;obtain⟨m,hm,hcm,hmv⟩:=hA;obtain⟨pb,cb,rfl,hcb,-⟩:=q0n hl;obtain⟨pa,ca,rfl,dL,-⟩:=q0n hm;have hlk:=q06 hcl (k:=K) (by rw[hlv];exact hB2);have hmk:=q06 hcm (k:=K) (by rw[hmv];exact hA2);have uy:Hid (Nat.gcd A B=Nat.gcd a b):=hg;have Pk:Hid (0<A):=fH;have mF:Hid (A<2^(32*K)):=hA2;have nS:Hid (B<2^(32*K)):=hB2;have qz:Hid (0<B→Calls Tryz.prog 175 #[.slice pa m.length ca,.slice pb l.length cb] wr (q2j wr (A/B) (A%B))):=fun h=>q6F wr _ _ A B K hK Cq.out uz.out hA2 hB2 h;by_cases hl3:2<l.length
  ·have hB0:0<B:=by
    have:=q14 hcl (by intro e;rw[e] at hl3;simp at hl3);have h2:=Nat.two_pow_pos (32*(l.length-1));omega
   have Cr:decide ((2:Int)<l.length)=true:=by simp;omega
   have hmu:numV wr (.slice pb l.length cb)=B:=q1O uz.out;have yF:Hid _:=hmu;have HB0:Hid (0<B):=hB0;have HG2:Hid (Nat.gcd B (A%B)=Nat.gcd a b):=gcd_swap.trans ((Nat.gcd_comm B A).trans uy.out);have ML:Hid (A%B<B):=Nat.mod_lt _ hB0;generalize l.length=j at *;generalize m.length=i at *;clear fH hA2 hB2 hg hl hm hcl hcm hlv hmv hcb dL hlk hmk hl3 hB0 hmu;go_wp2_with fail;refine q00 (qz.out HB0.out) ?_;rintro e w2 ⟨v2,v3,rfl,hg2,hn2,iF⟩;have Cs:=q1O iF;have Ir:Hid _:=Cs;have fJ:Hid _:=iF;have yG:Hid (Num w2 (.slice pb j cb) B):=uz.out.G hg2;have hG2:=G.trans hG hg2;clear hn2 iF Cs hg2;go_wp2_with fail
   go_roundw
   case rel=>exact⟨B,A%B,yG.out,fJ.out,HB0.out,nS.out,Nat.lt_trans ML.out nS.out,HG2.out,hG2⟩
   case measure=>
    have h1:=yF.out;have h2:=Ir.out;have h3:=ML.out;rw[h1,h2];exact h3
  ·have Cr:decide ((2:Int)<l.length)=false:=by simp;omega
   have nT:B<2^64:=by
    have:=q0v hcl.1;rw[hlv] at this;exact Nat.lt_of_lt_of_le this (Nat.pow_le_pow_right (by omega) (by omega))
   by_cases hl0:l.length=0
   ·have hB0:B=0:=by rw[← hlv,(q0V hcl).2 (List.eq_nil_of_length_eq_zero hl0)]
    subst hB0;have hga:A=Nat.gcd a b:=by rw[← uy.out,Nat.gcd_zero_right]
    have yj:Hid _:=hga;rw[hl0];rw[hl0] at Cr;generalize m.length=i at *;clear fH hA2 hB2 hg hl hm hcl hcm hlv hmv hcb dL hlk hmk hl3 hl0 hga nT;go_wp2_with fail;go_ret;exact⟨_,rfl,hG,by rw[← yj.out];exact Cq.out⟩
   ·have pK:((l.length:Int)==0)=false:=by simp;intro h;exact hl0 (by rw[h];rfl)
    have hB0:0<B:=by
     have:=q14 hcl (by intro e;rw[e] at hl0;exact hl0 rfl);have h2:=Nat.two_pow_pos (32*(l.length-1));omega
    have HB0:Hid (0<B):=hB0;have hlb:(l.length:Int)≤2:=by omega
    by_cases Ay:2<m.length
    ·have Iu:decide ((2:Int)<m.length)=true:=by simp;omega
     have HG2:Hid (Nat.gcd B (A%B)=Nat.gcd a b):=gcd_swap.trans ((Nat.gcd_comm B A).trans uy.out);have HXB:Hid (B<18446744073709551616):=nT;have qA:Hid (A%B<18446744073709551616):=Nat.lt_trans (Nat.mod_lt _ hB0) nT;generalize l.length=j at *;generalize m.length=i at *;clear fH hA2 hB2 hg hl hm hcl hcm hlv hmv hcb dL hlk hmk hl3 hB0 nT Ay;go_wp2_with fail;refine q00 (qz.out HB0.out) ?_;rintro e w2 ⟨v2,v3,rfl,hg2,hn2,iF⟩;have yG:Hid (Num w2 (.slice pb j cb) B):=uz.out.G hg2;have iR:Hid _:=q2X w2 _ B yG.out;have nU:Hid (∀ w3,G w2 w3→_):=fun w3 g=>q2X w3 _ (A%B) (iF.G g);rw[Nat.mod_eq_of_lt (show B<2^64 from HXB.out)] at iR;rw[Nat.mod_eq_of_lt (show A%B<2^64 from qA.out)] at nU;have hG2:=G.trans hG hg2;obtain⟨X0,hX0⟩:∃ X0,X0=B:=⟨_,rfl⟩;obtain⟨Y0,hY0⟩:∃ Y0,Y0=A%B:=⟨_,rfl⟩;rw[← hY0] at nU qA HG2;rw[← hX0] at iR HXB HG2;have jl:Hid (Nat.gcd X0 Y0=Nat.gcd a b):=HG2.out;clear hn2 iF hg2 hX0 hY0 HG2;go_wp2_with fail;refine q00 iR.out ?_;rintro e w3 ⟨rfl,hg3⟩;go_wp2_with fail;refine q00 (nU.out w3 hg3) ?_;rintro e w4 ⟨rfl,hg4⟩;have hG1:=G.trans hG2 (G.trans hg3 hg4);go_wp2_with fail;clear hG2 hg3 hg4 iR nU
     go_loopw [9,10] (fun vx vy wr=>∃ X Y:Nat,vx= .int .u64 X∧vy= .int .u64 Y∧X<18446744073709551616∧Y<18446744073709551616∧Nat.gcd X Y=Nat.gcd a b∧G w wr) (fun _ vy _=>(intOf vy).toNat)
     case atStart=>exact⟨X0,Y0,rfl,rfl,HXB.out,qA.out,jl.out,hG1⟩
     case round=>
      obtain⟨X,Y,rfl,rfl,hX,hY,hgc,hG2⟩:=hrel;have jB:Hid (Nat.gcd X Y=Nat.gcd a b):=hgc;have Iw:(X:Int)≤18446744073709551615:=by omega
      have Iy:(Y:Int)≤18446744073709551615:=by omega
      clear hgc hG1;by_cases hY0:0<Y
      ·have wz:(1:Int)≤Y:=by omega
       have yH:Y≠0:=by omega
       have Iz:decide (0<Y)=true:=by simpa using hY0
       have hyn:((Y:Int)==0)=false:=by simp;omega
       obtain⟨Z,hZ,hZ1,hZ2⟩:∃ Z:Nat,Z=X%Y∧(X:Int)%Y=Z∧Z<Y:=⟨X%Y,rfl,by rw[← Int.natCast_emod],Nat.mod_lt _ hY0⟩;have yI:(X:Int).tmod Y=Z:=by rw[Int.tmod_eq_emod_of_nonneg (by omega)];exact hZ1
       have uA:Hid (Nat.gcd Y Z=Nat.gcd a b):=by show Nat.gcd Y Z=Nat.gcd a b;rw[hZ];exact gcd_swap.trans ((Nat.gcd_comm Y X).trans jB.out)
       have HZ2:Hid (Z<Y):=hZ2;have yJ:Hid (Y<18446744073709551616):=hY;have yK:Z<18446744073709551616:=by omega
       clear hZ hX hY hZ2;go_wp2_with fail;refine q0f (by kernel_rfl) (by kernel_rfl) ?_;intro W hW;clear hW
       repeat (go_big_quiet_step (fail))
       refine wpQuiet_nil ?_;intro w5 mG;have hG3:=G.trans hG2 mG;clear mG;go_wp2_with fail
       try simp only[hZ1]
       go_roundw
       case rel=>exact⟨Y,Z,rfl,by first|rfl|(rw[hZ1])|(rw[yI]),yJ.out,yK,uA.out,hG3⟩
       case measure=>have:=HZ2.out;simp only[intOf];omega
      ·obtain rfl:Y=0:=by omega
       have hgx:X=Nat.gcd a b:=by rw[← jB.out,Nat.gcd_zero_right]
       have ry:Hid (X=Nat.gcd a b):=hgx;have HW:Hid (∀ w1,_):=fun w1=>q2T w1 X hX;clear hX hY hgx;go_wp2_with fail;refine q00 (HW.out wr) ?_;rintro e w5 ⟨v5,rfl,hg5,rC⟩;go_wp2_with fail;go_ret;exact⟨v5,rfl,G.trans hG2 hg5,by rw[← ry.out];exact rC⟩
    ·have Iu:decide ((2:Int)<m.length)=false:=by simp;omega
     have yL:A<2^64:=by
      have:=q0v hcm.1;rw[hmv] at this;exact Nat.lt_of_lt_of_le this (Nat.pow_le_pow_right (by omega) (by omega))
     have HXB:Hid (A<18446744073709551616):=yL;have qA:Hid (B<18446744073709551616):=nT;have hmb:(m.length:Int)≤2:=by omega
     have iR:Hid _:=q2X wr _ A Cq.out;have nU:Hid (∀ w3,G wr w3→_):=fun w3 g=>q2X w3 _ B (uz.out.G g);rw[Nat.mod_eq_of_lt (show A<2^64 from yL)] at iR;rw[Nat.mod_eq_of_lt (show B<2^64 from nT)] at nU;generalize l.length=j at *;generalize m.length=i at *;clear fH hA2 hB2 hg hl hm hcl hcm hlv hmv hcb dL hlk hmk hl3 hB0 nT Ay yL;obtain⟨X0,hX0⟩:∃ X0,X0=A:=⟨_,rfl⟩;obtain⟨Y0,hY0⟩:∃ Y0,Y0=B:=⟨_,rfl⟩;have jl:Hid (Nat.gcd X0 Y0=Nat.gcd a b):=by show Nat.gcd X0 Y0=Nat.gcd a b;rw[hX0,hY0];exact uy.out
     rw[← hY0] at nU qA;rw[← hX0] at iR HXB;clear hX0 hY0;go_wp2_with fail;refine q00 iR.out ?_;rintro e w3 ⟨rfl,hg3⟩;go_wp2_with fail;refine q00 (nU.out w3 hg3) ?_;rintro e w4 ⟨rfl,hg4⟩;have hG1:=G.trans hG (G.trans hg3 hg4);go_wp2_with fail;clear hg3 hg4 iR nU
     go_loopw [9,10] (fun vx vy wr=>∃ X Y:Nat,vx= .int .u64 X∧vy= .int .u64 Y∧X<18446744073709551616∧Y<18446744073709551616∧Nat.gcd X Y=Nat.gcd a b∧G w wr) (fun _ vy _=>(intOf vy).toNat)
     case atStart=>exact⟨X0,Y0,rfl,rfl,HXB.out,qA.out,jl.out,hG1⟩
     case round=>
      obtain⟨X,Y,rfl,rfl,hX,hY,hgc,hG2⟩:=hrel;have jB:Hid (Nat.gcd X Y=Nat.gcd a b):=hgc;have Iw:(X:Int)≤18446744073709551615:=by omega
      have Iy:(Y:Int)≤18446744073709551615:=by omega
      clear hgc hG1;by_cases hY0:0<Y
      ·have wz:(1:Int)≤Y:=by omega
       have yH:Y≠0:=by omega
       have Iz:decide (0<Y)=true:=by simpa using hY0
       have hyn:((Y:Int)==0)=false:=by simp;omega
       obtain⟨Z,hZ,hZ1,hZ2⟩:∃ Z:Nat,Z=X%Y∧(X:Int)%Y=Z∧Z<Y:=⟨X%Y,rfl,by rw[← Int.natCast_emod],Nat.mod_lt _ hY0⟩;have yI:(X:Int).tmod Y=Z:=by rw[Int.tmod_eq_emod_of_nonneg (by omega)];exact hZ1
       have uA:Hid (Nat.gcd Y Z=Nat.gcd a b):=by show Nat.gcd Y Z=Nat.gcd a b;rw[hZ];exact gcd_swap.trans ((Nat.gcd_comm Y X).trans jB.out)
       have HZ2:Hid (Z<Y):=hZ2;have yJ:Hid (Y<18446744073709551616):=hY;have yK:Z<18446744073709551616:=by omega
       clear hZ hX hY hZ2;go_wp2_with fail;refine q0f (by kernel_rfl) (by kernel_rfl) ?_;intro W hW;clear hW
       repeat (go_big_quiet_step (fail))
       refine wpQuiet_nil ?_;intro w5 mG;have hG3:=G.trans hG2 mG;clear mG;go_wp2_with fail
       try simp only[hZ1]
       go_roundw
       case rel=>exact⟨Y,Z,rfl,by first|rfl|(rw[hZ1])|(rw[yI]),yJ.out,yK,uA.out,hG3⟩
       case measure=>have:=HZ2.out;simp only[intOf];omega
      ·obtain rfl:Y=0:=by omega
       have hgx:X=Nat.gcd a b:=by rw[← jB.out,Nat.gcd_zero_right]
       have ry:Hid (X=Nat.gcd a b):=hgx;have HW:Hid (∀ w1,_):=fun w1=>q2T w1 X hX;clear hX hY hgx;go_wp2_with fail;refine q00 (HW.out wr) ?_;rintro e w5 ⟨v5,rfl,hg5,rC⟩;go_wp2_with fail;go_ret;exact⟨v5,rfl,G.trans hG2 hg5,by rw[← ry.out];exact rC⟩
end Go.Proofs.YtbfjihniphldaaaGreatDoor
