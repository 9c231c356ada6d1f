/- What is proved here: contracts of the reference's big numbers: div, all its ways, over this seat's translation.
What is proved here: contracts of the reference's big numbers: common (the greatest divisor), over this seat's translation. -/
import Derived.Test.YtemmkninoiclfaaGreatDoorC14
namespace Go.Proofs.YtemmkninoiclfaaGreatDoor
open Go.ChangeShapes Go.WideShapes Go.ChangeAt Go.RowKit
open BN
theorem q4P {l:List Nat} (h:canon l) {k:Nat} (hv:2^(32*k)≤val l):k<l.length:=by
 rcases Nat.lt_or_ge k l.length with h1|h1
 ·exact h1
 ·have h2:=q0u h.1
  have h3:2^(32*l.length)≤2^(32*k):=Nat.pow_le_pow_right (by omega) (by omega)
  omega
set_option maxRecDepth 10000 in
theorem q9g (w:World) (va vb:Value) (a b K:Nat) (hK:K≤300000) (ha:Num w va a) (hb:Num w vb b) (ha2:a<2^(32*K)) (hb2:b<2^(32*K)) (ig:a<b):
  Calls Tryz.prog 175 #[va,vb] w (q2i w (a/b) (a%b)):=by
 have jm:Hid _:=q2F w _ _ a b K (by omega) ha hb ha2 hb2
 have Pq:Hid (∀ w1,G w w1→_):=fun w1 g=>q65 w1 _ a K (by omega) (ha.G g) ha2
 obtain⟨m,hm,hcm,iN⟩:=hb
 have hn0:m.length≠0:=by
  intro h
  have:=List.eq_nil_of_length_eq_zero h
  rw[this] at iN
  simp [val] at iN
  omega
 obtain⟨pb,cb,rfl,hcb,-⟩:=q0m hm
 have hc:decide (cmpV a b<0)=true:=by rw[decide_eq_true_iff];unfold cmpV;rw[if_pos ig];omega
 have h1:a/b=0:=Nat.div_eq_of_lt ig
 have h2:a%b=a:=Nat.mod_eq_of_lt ig
 rw[h1,h2]
 generalize cmpV a b=cv at *
 generalize m.length=n at *
 have t2:((n:Int)==0)=false:=by simp;omega
 clear hm hcm iN ig hb2 ha2 ha h1 h2 hn0
 go_enter Tryz.func175,Tryz.ntmps175
 go_wp2_with fail
 refine Calls.mono (P:=Tryz.prog) jm.out ?_
 rintro e1 w1 ⟨rfl,hg1⟩
 go_wp2_with fail
 refine Calls.mono (P:=Tryz.prog) (Pq.out w1 hg1) ?_
 rintro e1 w2 ⟨v2,rfl,hg2,hn2⟩
 go_wp2_with fail
 go_ret2
 exact⟨_,_,rfl,G.trans hg1 hg2,num_nil _ _ _,hn2⟩
set_option maxRecDepth 10000 in
theorem qaM (w:World) (va vb:Value) (a b:Nat) (ha:Num w va a) (hb:Num w vb b) (ha2:a<2^64) (ig:b≤a) (hb0:0<b):
  Calls Tryz.prog 175 #[va,vb] w (q2i w (a/b) (a%b)):=by
 have hdv:a/b<2^64:=Nat.lt_of_le_of_lt (Nat.div_le_self _ _) ha2
 have hmd:a%b<2^64:=Nat.lt_of_le_of_lt (Nat.mod_le _ _) ha2
 have jm:Hid _:=q2F w _ _ a b 2 (by omega) ha hb ha2 (by omega)
 have iZ:Hid (∀ w1,G w w1→_):=fun w1 g=>q2V w1 _ a (ha.G g)
 have og:Hid (∀ w1,G w w1→_):=fun w1 g=>q2V w1 _ b (hb.G g)
 have HQ:Hid (∀ w1,_):=fun w1=>q2R w1 (a/b) hdv
 have HR:Hid (∀ w1,_):=fun w1=>q2R w1 (a%b) hmd
 rw[Nat.mod_eq_of_lt (show a<2^64 from ha2)] at iZ
 rw[Nat.mod_eq_of_lt (show b<2^64 by omega)] at og
 obtain⟨l,hl,hcl,hvl⟩:=ha
 have hl2:=q05 hcl (k:=2) (by rw[hvl];exact ha2)
 obtain⟨m,hm,hcm,iN⟩:=hb
 have hn0:m.length≠0:=by
  intro h
  have:=List.eq_nil_of_length_eq_zero h
  rw[this] at iN
  simp [val] at iN
  omega
 obtain⟨pa,ca,rfl,dQ,-⟩:=q0m hl
 obtain⟨pb,cb,rfl,hcb,-⟩:=q0m hm
 have hc:decide (cmpV a b<0)=false:=by rw[decide_eq_false_iff_not];unfold cmpV;rw[if_neg (by omega)];split<;>omega
 generalize cmpV a b=cv at *
 generalize m.length=n at *
 generalize l.length=j at *
 have t2:((n:Int)==0)=false:=by simp;omega
 have t1:decide ((j:Int)≤2)=true:=by simp;omega
 have hab:(a:Int)≤18446744073709551615:=by omega
 have hbb:(b:Int)≤18446744073709551615:=by omega
 have hbn:((b:Int)==0)=false:=by simp;omega
 have hb1:(1:Int)≤b:=by omega
 have Ps:b≠0:=by omega
 have hdi:IntKind.u64.wrap ((a:Int)/b)=((a/b:Nat):Int):=by rw[IntKind.wrap_u64,← Int.natCast_ediv];generalize a/b=q at *;omega
 have Bb:(a:Int)%b=((a%b:Nat):Int):=by rw[← Int.natCast_emod]
 have Pt:(a:Int).tmod b=((a%b:Nat):Int):=by rw[Int.tmod_eq_emod_of_nonneg (by omega)];exact Bb
 have yY:IntKind.u64.wrap ((a:Int).tdiv b)=((a/b:Nat):Int):=by rw[Int.tdiv_eq_ediv_of_nonneg (by omega)];exact hdi
 generalize a/b=dq at *
 generalize a%b=dr at *
 clear hm hcm iN ig ha2 hn0 hl hcl hvl hl2 hb0 hdv hmd
 go_enter Tryz.func175,Tryz.ntmps175
 go_wp2_with fail
 refine Calls.mono (P:=Tryz.prog) jm.out ?_
 rintro e1 w1 ⟨rfl,hg1⟩
 go_wp2_with fail
 refine Calls.mono (P:=Tryz.prog) (iZ.out w1 hg1) ?_
 rintro e1 w2 ⟨rfl,hg2⟩
 go_wp2_with fail
 refine Calls.mono (P:=Tryz.prog) (og.out w2 (G.trans hg1 hg2)) ?_
 rintro e1 w3 ⟨rfl,hg3⟩
 have hG3:=G.trans hg1 (G.trans hg2 hg3)
 clear hg1 hg2 hg3
 go_wp2_with fail
 go_region_with
  (first
   |(go_at_call_of 177 dq;refine Calls.mono (P:=Tryz.prog) (HQ.out _) ?_;rintro e1 wn ⟨vn,rfl,hgn,hnn⟩)
   |(go_at_call_of 177 dr;refine Calls.mono (P:=Tryz.prog) (HR.out _) ?_;rintro e1 wn ⟨vn,rfl,hgn,hnn⟩))
 all_goals
  go_wp2_with fail
  go_ret2
  exact⟨_,_,rfl,G.trans hG3 (by repeat' (first|exact G.refl _|assumption|refine G.alloc ?_ _|refine G.drew ?_ |refine G.drewN ?_ _|(refine G.trans ?_ (by assumption)))),(by first|assumption|exact Num.G (by assumption) (by assumption)),(by first|assumption|exact Num.G (by assumption) (by assumption))⟩
theorem q3T (w:World) (d:Nat) (e:TypeId) (h0:d<2^32):Sl (w.alloc (.cells #[.int .u32 (d:Int)] e)) (.slice (some ⟨w.heap.size,0,none⟩) 1 1) [d]:=by
 refine⟨fun x hx=> ?_,Or.inr ⟨w.heap.size,0,1,rfl,Nat.le_refl _,by simp,fun i hi=> ?_⟩⟩
 ·simp at hx;rw[hx];exact h0
 ·rw[Nat.zero_add,World.cell?_alloc_at _ _ _ _ rfl]
  have:i=0:=by simp at hi;omega
  subst this
  rfl
set_option maxRecDepth 10000 in
theorem q8G (w:World) (va vb:Value) (a b K:Nat) (hK:K≤300000) (ha:Num w va a) (hb:Num w vb b) (ha2:a<2^(32*K)) (ig:b≤a) (hbig:2^64≤a) (hb0:0<b) (hb2:b<2^32):
  Calls Tryz.prog 175 #[va,vb] w (q2i w (a/b) (a%b)):=by
 have hmd:a%b<2^32:=Nat.lt_of_lt_of_le (Nat.mod_lt _ hb0) (by omega)
 have jm:Hid _:=q2F w _ _ a b K (by omega) ha hb ha2 (by omega)
 have Pv:Hid (∀ w1,G w w1→_):=fun w1 g=>qa4 w1 _ a b K (by omega) hb0 hb2 (ha.G g) ha2
 have MP:Hid (∀ w1,_):=fun w1=>trim_c _ _ _ (q3T w1 (a%b) 187 hmd) (by simp)
 rw[show val [a%b]=a%b from by simp [val]] at MP
 obtain⟨l,hl,hcl,hvl⟩:=ha
 have hl2:=q4P hcl (k:=2) (by rw[hvl];exact hbig)
 have hlk:=q05 hcl (k:=K) (by rw[hvl];exact ha2)
 obtain⟨m,hm,hcm,iN⟩:=hb
 have hn1:m.length=1:=by
  have h1:=q05 hcm (k:=1) (by rw[iN];exact hb2)
  have h2:m.length≠0:=by
   intro h
   have:=List.eq_nil_of_length_eq_zero h
   rw[this] at iN
   simp [val] at iN
   omega
  omega
 obtain⟨pa,ca,rfl,dQ,-⟩:=q0m hl
 obtain⟨pb,cb,rfl,hcb,hrb⟩:=q0m hm
 obtain⟨b0,o0,rfl,IL,hc0⟩:=hrb 0 (by omega)
 have hmb:m.getD 0 0=b:=by
  obtain⟨x,rfl⟩:=List.length_eq_one_iff.1 hn1
  rw[q1g] at iN
  simpa using iN
 rw[hmb] at hc0
 rw[Nat.add_zero] at hc0
 have hc:decide (cmpV a b<0)=false:=by rw[decide_eq_false_iff_not];unfold cmpV;rw[if_neg (by omega)];split<;>omega
 generalize cmpV a b=cv at *
 rw[hn1] at *
 generalize l.length=j at *
 have t1:decide ((j:Int)≤2)=false:=by simp;omega
 have hjb:(j:Int)≤300000:=by omega
 have hbb:(b:Int)≤4294967295:=by omega
 have Pw:((a%b:Nat):Int)≤4294967295:=by omega
 generalize a/b=dq at *
 generalize a%b=dr at *
 clear hm hcm iN ig ha2 hn1 hl hcl hvl hl2 hb0 hmd hmb hrb hbig hlk hb2
 go_enter Tryz.func175,Tryz.ntmps175
 go_wp2_with fail
 refine Calls.mono (P:=Tryz.prog) jm.out ?_
 rintro e1 w1 ⟨rfl,hg1⟩
 have hc1:=hg1.cell IL hc0
 clear hc0
 go_wp2_with fail
 refine Calls.mono (P:=Tryz.prog) (Pv.out w1 hg1) ?_
 rintro e1 w2 ⟨v2,rfl,hg2,hn2⟩
 go_wp2_with fail
 refine Calls.mono (P:=Tryz.prog) (MP.out w2) ?_
 rintro e1 w3 ⟨v3,rfl,hg3,iM⟩
 have hg3':=G.trans ((G.refl w2).alloc (.cells #[.int .u32 (dr:Int)] 187)) hg3
 go_wp2_with fail
 go_ret2
 exact⟨_,_,rfl,G.trans hg1 (G.trans hg2 hg3'),hn2.G hg3',iM⟩
/-- Division of the reference's big numbers. -/
theorem q6C (w:World) (va vb:Value) (a b K:Nat) (hK:K≤300000) (ha:Num w va a) (hb:Num w vb b) (ha2:a<2^(32*K)) (hb2:b<2^(32*K)) (hb0:0<b):
  Calls Tryz.prog 175 #[va,vb] w (q2i w (a/b) (a%b)):=by
 rcases Nat.lt_or_ge a b with hab|hab
 ·exact q9g w va vb a b K hK ha hb ha2 hb2 hab
 ·rcases Nat.lt_or_ge a (2^64) with h64|h64
  ·exact qaM w va vb a b ha hb h64 hab hb0
  ·rcases Nat.lt_or_ge b (2^32) with h32|h32
   ·exact q8G w va vb a b K hK ha hb ha2 hab h64 hb0 h32
   ·exact q85 w va vb a b K hK ha hb ha2 hab h64 h32
/-- The number that a slice of words holds. -/
def numV (w:World):Value→Nat
 | .slice (some a) n _=>val ((List.range n).map fun i=>match w.cell? ⟨a.block,a.off+i,none⟩ with
  |some (.int _ z)=>z.toNat
  |_=>0)
 |_=>0
theorem q1N {w:World} {v:Value} {n:Nat} (h:Num w v n):numV w v=n:=by
 obtain⟨l,hl,-,rfl⟩:=h
 rcases Sl.cases hl with ⟨rfl,a,c,rfl⟩|⟨-,b,o,c,rfl,-,-,hr⟩
 ·cases a<;>rfl
 ·show val _=val l
  congr 1
  refine List.ext_getElem (by simp) fun i h1 h2=> ?_
  rw[List.getElem_map,List.getElem_range]
  rw[hr i h2]
  simp [List.getD_eq_getElem?_getD,h2]
theorem gcd_swap {X Y:Nat}:Nat.gcd Y (X%Y)=Nat.gcd Y X:=by
 rw[Nat.gcd_comm Y (X%Y),← Nat.gcd_rec]
set_option maxRecDepth 10000 in
theorem q1T (w:World) (va vb:Value) (a b K:Nat) (hK:K≤300000) (ha:Num w va a) (hb:Num w vb b) (ha0:0<a) (ha2:a<2^(32*K)) (hb2:b<2^(32*K)):
  Calls Tryz.prog 174 #[va,vb] w (q0e w (Nat.gcd a b)):=by
 have HA:Hid _:=ha
 have HB:Hid _:=hb
 have HA2:Hid _:=ha2
 have HB2:Hid _:=hb2
 have ko:Hid (0<a):=ha0
 clear ha hb ha2 hb2 ha0
 go_enter Tryz.func174,Tryz.ntmps174
 go_wp2_with fail
 go_loopw [0,1] (fun va vb wr=>∃ A B:Nat,Num wr va A∧Num wr vb B∧0<A∧A<2^(32*K)∧B<2^(32*K)∧Nat.gcd A B=Nat.gcd a b∧G w wr) (fun _ vb wr=>numV wr vb)
 case atStart=>exact⟨a,b,HA.out,HB.out,ko.out,HA2.out,HB2.out,rfl,G.refl _⟩
 case round=>
  obtain⟨A,B,hA,hB,fO,hA2,hB2,hg,hG⟩:=hrel
  have CE:Hid (Num wr u0 A):=hA
  have uK:Hid (Num wr u1 B):=hB
  obtain⟨l,hl,hcl,hlv⟩:=hB
  obtain⟨m,hm,hcm,hmv⟩:=hA
  obtain⟨pb,cb,rfl,hcb,-⟩:=q0m hl
  obtain⟨pa,ca,rfl,dQ,-⟩:=q0m hm
  have hlk:=q05 hcl (k:=K) (by rw[hlv];exact hB2)
  have hmk:=q05 hcm (k:=K) (by rw[hmv];exact hA2)
  have uJ:Hid (Nat.gcd A B=Nat.gcd a b):=hg
  have Pp:Hid (0<A):=fO
  have mO:Hid (A<2^(32*K)):=hA2
  have o6:Hid (B<2^(32*K)):=hB2
  have qK:Hid (0<B→Calls Tryz.prog 175 #[.slice pa m.length ca,.slice pb l.length cb] wr (q2i wr (A/B) (A%B))):=fun h=>q6C wr _ _ A B K hK CE.out uK.out hA2 hB2 h
  by_cases hl3:2<l.length
  ·have hB0:0<B:=by
    have:=q0Z hcl (by intro e;rw[e] at hl3;simp at hl3)
    have h2:=Nat.two_pow_pos (32*(l.length-1))
    omega
   have CF:decide ((2:Int)<l.length)=true:=by simp;omega
   have hmu:numV wr (.slice pb l.length cb)=B:=q1N uK.out
   have yQ:Hid _:=hmu
   have HB0:Hid (0<B):=hB0
   have HG2:Hid (Nat.gcd B (A%B)=Nat.gcd a b):=gcd_swap.trans ((Nat.gcd_comm B A).trans uJ.out)
   have MO:Hid (A%B<B):=Nat.mod_lt _ hB0
   generalize l.length=j at *
   generalize m.length=i at *
   clear fO hA2 hB2 hg hl hm hcl hcm hlv hmv hcb dQ hlk hmk hl3 hB0 hmu
   go_wp2_with fail
   refine Calls.mono (P:=Tryz.prog) (qK.out HB0.out) ?_
   rintro e w2 ⟨v2,v3,rfl,hg2,hn2,iM⟩
   have CG:=q1N iM
   have IE:Hid _:=CG
   have fQ:Hid _:=iM
   have yR:Hid (Num w2 (.slice pb j cb) B):=uK.out.G hg2
   have hG2:=G.trans hG hg2
   clear hn2 iM CG hg2
   go_wp2_with fail
   go_roundw
   case rel=>exact⟨B,A%B,yR.out,fQ.out,HB0.out,o6.out,Nat.lt_trans MO.out o6.out,HG2.out,hG2⟩
   case measure=>
    have h1:=yQ.out
    have h2:=IE.out
    have h3:=MO.out
    rw[h1,h2];exact h3
  ·have CF:decide ((2:Int)<l.length)=false:=by simp;omega
   have o9:B<2^64:=by
    have:=q0u hcl.1
    rw[hlv] at this
    exact Nat.lt_of_lt_of_le this (Nat.pow_le_pow_right (by omega) (by omega))
   by_cases hl0:l.length=0
   ·have hB0:B=0:=by rw[← hlv,(q0U hcl).2 (List.eq_nil_of_length_eq_zero hl0)]
    subst hB0
    have hga:A=Nat.gcd a b:=by rw[← uJ.out,Nat.gcd_zero_right]
    have yE:Hid _:=hga
    rw[hl0]
    rw[hl0] at CF
    generalize m.length=i at *
    clear fO hA2 hB2 hg hl hm hcl hcm hlv hmv hcb dQ hlk hmk hl3 hl0 hga o9
    go_wp2_with fail
    go_ret
    exact⟨_,rfl,hG,by rw[← yE.out];exact CE.out⟩
   ·have qd:((l.length:Int)==0)=false:=by simp;intro h;exact hl0 (by rw[h];rfl)
    have hB0:0<B:=by
     have:=q0Z hcl (by intro e;rw[e] at hl0;exact hl0 rfl)
     have h2:=Nat.two_pow_pos (32*(l.length-1))
     omega
    have HB0:Hid (0<B):=hB0
    have hlb:(l.length:Int)≤2:=by omega
    by_cases AV:2<m.length
    ·have IG:decide ((2:Int)<m.length)=true:=by simp;omega
     have HG2:Hid (Nat.gcd B (A%B)=Nat.gcd a b):=gcd_swap.trans ((Nat.gcd_comm B A).trans uJ.out)
     have HXB:Hid (B<18446744073709551616):=o9
     have qL:Hid (A%B<18446744073709551616):=Nat.lt_trans (Nat.mod_lt _ hB0) o9
     generalize l.length=j at *
     generalize m.length=i at *
     clear fO hA2 hB2 hg hl hm hcl hcm hlv hmv hcb dQ hlk hmk hl3 hB0 o9 AV
     go_wp2_with fail
     refine Calls.mono (P:=Tryz.prog) (qK.out HB0.out) ?_
     rintro e w2 ⟨v2,v3,rfl,hg2,hn2,iM⟩
     have yR:Hid (Num w2 (.slice pb j cb) B):=uK.out.G hg2
     have iZ:Hid _:=q2V w2 _ B yR.out
     have og:Hid (∀ w3,G w2 w3→_):=fun w3 g=>q2V w3 _ (A%B) (iM.G g)
     rw[Nat.mod_eq_of_lt (show B<2^64 from HXB.out)] at iZ
     rw[Nat.mod_eq_of_lt (show A%B<2^64 from qL.out)] at og
     have hG2:=G.trans hG hg2
     obtain⟨X0,hX0⟩:∃ X0,X0=B:=⟨_,rfl⟩
     obtain⟨Y0,hY0⟩:∃ Y0,Y0=A%B:=⟨_,rfl⟩
     rw[← hY0] at og qL HG2
     rw[← hX0] at iZ HXB HG2
     have jw:Hid (Nat.gcd X0 Y0=Nat.gcd a b):=HG2.out
     clear hn2 iM hg2 hX0 hY0 HG2
     go_wp2_with fail
     refine Calls.mono (P:=Tryz.prog) iZ.out ?_
     rintro e w3 ⟨rfl,hg3⟩
     go_wp2_with fail
     refine Calls.mono (P:=Tryz.prog) (og.out w3 hg3) ?_
     rintro e w4 ⟨rfl,hg4⟩
     have hG1:=G.trans hG2 (G.trans hg3 hg4)
     go_wp2_with fail
     clear hG2 hg3 hg4 iZ og
     go_loopw [9,10] (fun vx vy wr=>∃ X Y:Nat,vx= .int .u64 X∧vy= .int .u64 Y∧X<18446744073709551616∧Y<18446744073709551616∧Nat.gcd X Y=Nat.gcd a b∧G w wr) (fun _ vy _=>(intOf vy).toNat)
     case atStart=>exact⟨X0,Y0,rfl,rfl,HXB.out,qL.out,jw.out,hG1⟩
     case round=>
      obtain⟨X,Y,rfl,rfl,hX,hY,hgc,hG2⟩:=hrel
      have jI:Hid (Nat.gcd X Y=Nat.gcd a b):=hgc
      have II:(X:Int)≤18446744073709551615:=by omega
      have IJ:(Y:Int)≤18446744073709551615:=by omega
      clear hgc hG1
      by_cases hY0:0<Y
      ·have wM:(1:Int)≤Y:=by omega
       have yS:Y≠0:=by omega
       have IK:decide (0<Y)=true:=by simpa using hY0
       have hyn:((Y:Int)==0)=false:=by simp;omega
       obtain⟨Z,hZ,hZ1,hZ2⟩:∃ Z:Nat,Z=X%Y∧(X:Int)%Y=Z∧Z<Y:=⟨X%Y,rfl,by rw[← Int.natCast_emod],Nat.mod_lt _ hY0⟩
       have yT:(X:Int).tmod Y=Z:=by rw[Int.tmod_eq_emod_of_nonneg (by omega)];exact hZ1
       have uL:Hid (Nat.gcd Y Z=Nat.gcd a b):=by show Nat.gcd Y Z=Nat.gcd a b;rw[hZ];exact gcd_swap.trans ((Nat.gcd_comm Y X).trans jI.out)
       have HZ2:Hid (Z<Y):=hZ2
       have yU:Hid (Y<18446744073709551616):=hY
       have yV:Z<18446744073709551616:=by omega
       clear hZ hX hY hZ2
       go_wp2_with fail
       refine q0d (by kernel_rfl) (by kernel_rfl) ?_
       intro W hW
       clear hW
       repeat (go_big_quiet_step (fail))
       refine wpQuiet_nil ?_
       intro w5 mP
       have hG3:=G.trans hG2 mP
       clear mP
       go_wp2_with fail
       try simp only[hZ1]
       go_roundw
       case rel=>exact⟨Y,Z,rfl,by first|rfl|(rw[hZ1])|(rw[yT]),yU.out,yV,uL.out,hG3⟩
       case measure=>have:=HZ2.out;simp only[intOf];omega
      ·obtain rfl:Y=0:=by omega
       have hgx:X=Nat.gcd a b:=by rw[← jI.out,Nat.gcd_zero_right]
       have rM:Hid (X=Nat.gcd a b):=hgx
       have HW:Hid (∀ w1,_):=fun w1=>q2R w1 X hX
       clear hX hY hgx
       go_wp2_with fail
       refine Calls.mono (P:=Tryz.prog) (HW.out wr) ?_
       rintro e w5 ⟨v5,rfl,hg5,rQ⟩
       go_wp2_with fail
       go_ret
       exact⟨v5,rfl,G.trans hG2 hg5,by rw[← rM.out];exact rQ⟩
    ·have IG:decide ((2:Int)<m.length)=false:=by simp;omega
     have yX:A<2^64:=by
      have:=q0u hcm.1
      rw[hmv] at this
      exact Nat.lt_of_lt_of_le this (Nat.pow_le_pow_right (by omega) (by omega))
     have HXB:Hid (A<18446744073709551616):=yX
     have qL:Hid (B<18446744073709551616):=o9
     have hmb:(m.length:Int)≤2:=by omega
     have iZ:Hid _:=q2V wr _ A CE.out
     have og:Hid (∀ w3,G wr w3→_):=fun w3 g=>q2V w3 _ B (uK.out.G g)
     rw[Nat.mod_eq_of_lt (show A<2^64 from yX)] at iZ
     rw[Nat.mod_eq_of_lt (show B<2^64 from o9)] at og
     generalize l.length=j at *
     generalize m.length=i at *
     clear fO hA2 hB2 hg hl hm hcl hcm hlv hmv hcb dQ hlk hmk hl3 hB0 o9 AV yX
     obtain⟨X0,hX0⟩:∃ X0,X0=A:=⟨_,rfl⟩
     obtain⟨Y0,hY0⟩:∃ Y0,Y0=B:=⟨_,rfl⟩
     have jw:Hid (Nat.gcd X0 Y0=Nat.gcd a b):=by show Nat.gcd X0 Y0=Nat.gcd a b;rw[hX0,hY0];exact uJ.out
     rw[← hY0] at og qL
     rw[← hX0] at iZ HXB
     clear hX0 hY0
     go_wp2_with fail
     refine Calls.mono (P:=Tryz.prog) iZ.out ?_
     rintro e w3 ⟨rfl,hg3⟩
     go_wp2_with fail
     refine Calls.mono (P:=Tryz.prog) (og.out w3 hg3) ?_
     rintro e w4 ⟨rfl,hg4⟩
     have hG1:=G.trans hG (G.trans hg3 hg4)
     go_wp2_with fail
     clear hg3 hg4 iZ og
     go_loopw [9,10] (fun vx vy wr=>∃ X Y:Nat,vx= .int .u64 X∧vy= .int .u64 Y∧X<18446744073709551616∧Y<18446744073709551616∧Nat.gcd X Y=Nat.gcd a b∧G w wr) (fun _ vy _=>(intOf vy).toNat)
     case atStart=>exact⟨X0,Y0,rfl,rfl,HXB.out,qL.out,jw.out,hG1⟩
     case round=>
      obtain⟨X,Y,rfl,rfl,hX,hY,hgc,hG2⟩:=hrel
      have jI:Hid (Nat.gcd X Y=Nat.gcd a b):=hgc
      have II:(X:Int)≤18446744073709551615:=by omega
      have IJ:(Y:Int)≤18446744073709551615:=by omega
      clear hgc hG1
      by_cases hY0:0<Y
      ·have wM:(1:Int)≤Y:=by omega
       have yS:Y≠0:=by omega
       have IK:decide (0<Y)=true:=by simpa using hY0
       have hyn:((Y:Int)==0)=false:=by simp;omega
       obtain⟨Z,hZ,hZ1,hZ2⟩:∃ Z:Nat,Z=X%Y∧(X:Int)%Y=Z∧Z<Y:=⟨X%Y,rfl,by rw[← Int.natCast_emod],Nat.mod_lt _ hY0⟩
       have yT:(X:Int).tmod Y=Z:=by rw[Int.tmod_eq_emod_of_nonneg (by omega)];exact hZ1
       have uL:Hid (Nat.gcd Y Z=Nat.gcd a b):=by show Nat.gcd Y Z=Nat.gcd a b;rw[hZ];exact gcd_swap.trans ((Nat.gcd_comm Y X).trans jI.out)
       have HZ2:Hid (Z<Y):=hZ2
       have yU:Hid (Y<18446744073709551616):=hY
       have yV:Z<18446744073709551616:=by omega
       clear hZ hX hY hZ2
       go_wp2_with fail
       refine q0d (by kernel_rfl) (by kernel_rfl) ?_
       intro W hW
       clear hW
       repeat (go_big_quiet_step (fail))
       refine wpQuiet_nil ?_
       intro w5 mP
       have hG3:=G.trans hG2 mP
       clear mP
       go_wp2_with fail
       try simp only[hZ1]
       go_roundw
       case rel=>exact⟨Y,Z,rfl,by first|rfl|(rw[hZ1])|(rw[yT]),yU.out,yV,uL.out,hG3⟩
       case measure=>have:=HZ2.out;simp only[intOf];omega
      ·obtain rfl:Y=0:=by omega
       have hgx:X=Nat.gcd a b:=by rw[← jI.out,Nat.gcd_zero_right]
       have rM:Hid (X=Nat.gcd a b):=hgx
       have HW:Hid (∀ w1,_):=fun w1=>q2R w1 X hX
       clear hX hY hgx
       go_wp2_with fail
       refine Calls.mono (P:=Tryz.prog) (HW.out wr) ?_
       rintro e w5 ⟨v5,rfl,hg5,rQ⟩
       go_wp2_with fail
       go_ret
       exact⟨v5,rfl,G.trans hG2 hg5,by rw[← rM.out];exact rQ⟩
end Go.Proofs.YtemmkninoiclfaaGreatDoor
