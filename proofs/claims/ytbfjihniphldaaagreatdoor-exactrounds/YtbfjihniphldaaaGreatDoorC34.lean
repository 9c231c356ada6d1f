/- What is proved here: contracts of the reference's big numbers: near, over this seat's translation. -/
import Derived.Test.YtbfjihniphldaaaGreatDoorC14
import Derived.Test.YtbfjihniphldaaaGreatDoorC27
import Derived.OwnWalk
namespace Go.Proofs.YtbfjihniphldaaaGreatDoor
open Go.ChangeShapes Go.WideShapes Go.ChangeAt Go.RowKit
open BN
def qaa (w:World) (A B m:Nat) (p0:Int) (e:Ending) (w':World):Prop:=
 ∃ (q v:Nat) (P p:Int) (x:Bool),e= .returned (.tuple #[.pointer (some ⟨q,0,none⟩),.int .i64 P,.bool x])∧G w w'∧NI w w' q (v:Int)∧q5F A B m p v P x∧q2h A B m p0 p
set_option maxRecDepth 10000 in
set_option maxHeartbeats 4000000 in
theorem qbF (w:World) (ba oa bb ob A B m K:Nat) (low:Int) (hK:K≤10000) (hK1:100≤K) (fH:A≠0) (hB0:B≠0) (hA2:A<2^(32*K)) (hB2:B<2^(32*K)) (hm1:1≤m) (hm:m≤64) (hlow: -2000≤low) (O9:low≤2000)
  (gX:ba<w.heap.size) (hbb:bb<w.heap.size) (ha:IntIs w ba oa (A:Int)) (hb:IntIs w bb ob (B:Int)):
  Calls Tryz.prog 138 #[.pointer (some ⟨ba,oa,none⟩),.pointer (some ⟨bb,ob,none⟩),.int .i64 (m:Int),.int .i64 low] w (qaa w A B m (q1o A B m low)):=by
 have hla:=blen_le_iff.2 hA2;have hlb:=blen_le_iff.2 hB2;have eH:Hid (∀ w1,G w w1→_):=fun w1 g=>q2G w1 ba oa A K (by omega) hA2 (ha.G gX g);have zJ:Hid (∀ w1,G w w1→_):=fun w1 g=>q2G w1 bb ob B K (by omega) hB2 (hb.G hbb g);rw[Int.natAbs_natCast] at eH zJ;have mr:Hid (∀ w0 w1 p,G w w1→NI w0 w1 p 0→_):=fun w0 w1 p g h=>q5j w1 p 0 ba oa 0 A K (by omega) hA2 h.2.1 (G.lt g gX) h.2.2 (ha.G gX g);have jT:Hid (∀ w0 w1 p,G w w1→NI w0 w1 p 0→_):=fun w0 w1 p g h=>q5j w1 p 0 bb ob 0 B K (by omega) hB2 h.2.1 (G.lt g hbb) h.2.2 (hb.G hbb g);have Tg:(m:Int)≤64:=by omega
 have Ti:(blen A:Int)≤320000:=by omega
 have Tj:(blen B:Int)≤320000:=by omega
 have jU:Hid (A≠0):=fH;have HB0:Hid (B≠0):=hB0;have HA2:Hid _:=hA2;have HB2:Hid _:=hB2;by_cases hpl:(blen A:Int)-blen B-m<low
 case' pos=>
  obtain⟨p0,hp0⟩:∃ p0,p0=q1o A B m low:=⟨_,rfl⟩;have AZ:Hid _:=hp0;have lL:=hp0;unfold q1o at lL;rw[if_pos hpl] at lL;rw[← hp0];have hp1: -(32*(K:Int))≤p0:=by omega
  have hp2:p0+1≤32*(K:Int):=by omega
  have ru:decide ((blen A:Int)-blen B-m<low)=true:=by simpa using hpl
  generalize blen A=LA at *;generalize blen B=LB at *;subst lL;clear fH hB0 hA2 hB2 hp0 ha hb hpl hla hlb
 case' neg=>
  obtain⟨p0,hp0⟩:∃ p0,p0=q1o A B m low:=⟨_,rfl⟩;have AZ:Hid _:=hp0;have lL:=hp0;unfold q1o at lL;rw[if_neg hpl] at lL;rw[← hp0];have hp1: -(32*(K:Int))≤p0:=by omega
  have hp2:p0+1≤32*(K:Int):=by omega
  have ru:decide ((blen A:Int)-blen B-m<low)=false:=by simpa using hpl
  rw[← lL] at ru;generalize blen A=LA at *;generalize blen B=LB at *;have hpe:(LA:Int)-LB-m=p0:=lL.symm;clear fH hB0 hA2 hB2 hp0 ha hb hpl hla hlb lL
 all_goals
  go_enter Tryz.func138,Tryz.ntmps138;go_wp2_with fail;refine q00 (eH.out w (G.refl _)) ?_;rintro e w1 ⟨rfl,hg1⟩;go_wp2_with fail;refine q00 (zJ.out w1 hg1) ?_;rintro e w2 ⟨rfl,hg2⟩;have hG2:=G.trans hg1 hg2;go_wp2_with fail;clear hg1 hg2 eH zJ ru
  go_loopw [11] (fun vp wr=>∃ p:Int,vp= .int .i64 p∧q2h A B m p0 p∧p0≤p∧p≤p0+1∧G w wr) (fun vp _=>(p0+2-intOf vp).toNat)
  case atStart=>exact⟨p0,rfl,Or.inl rfl,Int.le_refl _,by omega,hG2⟩
  case round=>
   obtain⟨p,rfl,hat,Oa,hpb,hG⟩:=hrel;have HAT:Hid (q2h A B m p0 p):=hat;have EC: -320000≤p:=by omega
   have hpi2:p≤320000:=by omega
   clear hat hG2
   as_aux_lemma=>
    go_wp2_with fail;have hn0:=NI.new hG 38;have bK:=G.trans hG ((G.refl wr).alloc (.cells #[.bool false,.slice none 0 0] 38));refine q00 (mr.out w _ _ bK hn0) ?_;intro e w3 hs;obtain⟨rfl,hG3,fV,-,-⟩:=SetTo.step bK hn0 hs;clear hs hn0 bK;generalize wr.heap.size=pn at *;clear hG;go_wp2_with fail;have hn0:=NI.new hG3 38;have nz:=fV.G ((G.refl w3).alloc (.cells #[.bool false,.slice none 0 0] 38));have bK:=G.trans hG3 ((G.refl w3).alloc (.cells #[.bool false,.slice none 0 0] 38));have hne:w3.heap.size≠pn:=by have:=fV.2.1;omega
    refine q00 (jT.out w _ _ bK hn0) ?_;intro e w4 hs;obtain⟨rfl,hG4,hD4,-,hkp⟩:=SetTo.step bK hn0 hs;have eB:Hid (NI w w4 pn A):=hkp pn A hne.symm nz;have HD4:Hid (NI w w4 w3.heap.size B):=hD4;clear hs hn0 bK hkp nz fV hG3 hD4;generalize w3.heap.size=pd at *;have jA:Hid (upP A p<2^(32*(2*K))∧loP B p<2^(32*(2*K))∧loP B p≠0):=⟨qbQ HA2.out (by omega),qbO HB2.out (by omega),Nat.pos_iff_ne_zero.1 (q2V HB0.out)⟩;by_cases Ba:0≤p
    case' pos=>
     obtain⟨k,rfl⟩:∃ k:Nat,p=k:=Int.eq_ofNat_of_zero_le Ba;have HL:Hid (Calls Tryz.prog 68 #[.pointer (some ⟨pd,0,none⟩),.pointer (some ⟨pd,0,none⟩),.int .u64 (k:Int)] w4 (SetTo w4 pd 0 ((B:Int)*2^k))):=
      q1L w4 pd 0 pd 0 k B B K (by omega) (by omega) HB2.out HD4.out.2.1 HD4.out.2.1 HD4.out.2.2 HD4.out.2.2
     have hEq:(B:Int)*2^k=((loP B k:Nat):Int):=by unfold loP;push_cast;rfl
     have sW:(A:Int)=((upP A k:Nat):Int):=by unfold upP;rw[show (-(k:Int)).toNat=0 from by omega];simp
     rw[hEq] at HL;have HE2:Hid _:=sW;clear hEq sW;go_wp2_with fail;refine q00 HL.out ?_;intro e w5 hs;obtain⟨rfl,bV,hD5,-,hkp⟩:=SetTo.step hG4 HD4.out hs;have gL:=hkp pn A hne.symm eB.out;rw[HE2.out] at gL;have fZ:Hid (NI w w5 pn (upP A (k:Int):Nat)):=gL;have HD5:Hid (NI w w5 pd (loP B (k:Int):Nat)):=hD5;clear hs hkp hD5 gL HE2 HL eB HD4 hG4;obtain⟨p,hp⟩:∃ p:Int,p=(k:Int):=⟨_,rfl⟩;rw[← hp] at fZ HD5 Ba Oa hpb EC hpi2 jA HAT ⊢;have Ky:Hid _:=hp;clear hp Ba
    case' neg=>
     obtain⟨k,hk⟩:∃ k:Nat,p= -(k:Int):=⟨(-p).toNat,by omega⟩;have Kz:decide (0≤p)=false:=by simpa using Ba
     subst hk;have HL:Hid (Calls Tryz.prog 68 #[.pointer (some ⟨pn,0,none⟩),.pointer (some ⟨pn,0,none⟩),.int .u64 (k:Int)] w4 (SetTo w4 pn 0 ((A:Int)*2^k))):=
      q1L w4 pn 0 pn 0 k A A K (by omega) (by omega) HA2.out eB.out.2.1 eB.out.2.1 eB.out.2.2 eB.out.2.2
     have hEq:(A:Int)*2^k=((upP A (-(k:Int)):Nat):Int):=by unfold upP;rw[show (-(-(k:Int))).toNat=k from by omega];push_cast;rfl
     have sW:(B:Int)=((loP B (-(k:Int)):Nat):Int):=by unfold loP;rw[show (-(k:Int)).toNat=0 from by omega];simp
     rw[hEq] at HL;have HE2:Hid _:=sW;clear hEq sW;go_wp2_with fail;refine q00 HL.out ?_;intro e w5 hs;obtain⟨rfl,bV,gL,-,hkp⟩:=SetTo.step hG4 eB.out hs;have hD5:=hkp pd B hne HD4.out;rw[HE2.out] at hD5;have fZ:Hid (NI w w5 pn (upP A (-(k:Int)):Nat)):=gL;have HD5:Hid (NI w w5 pd (loP B (-(k:Int)):Nat)):=hD5;clear hs hkp hD5 gL HE2 HL eB HD4 hG4 Kz;obtain⟨p,hp⟩:∃ p:Int,p= -(k:Int):=⟨_,rfl⟩;rw[← hp] at fZ HD5 Ba Oa hpb EC hpi2 jA HAT ⊢;have Ky:Hid _:=hp;clear hp Ba
    all_goals
     as_aux_lemma=>
      obtain⟨N,hN⟩:∃ N,N=upP A p:=⟨_,rfl⟩;obtain⟨D,hD⟩:∃ D,D=loP B p:=⟨_,rfl⟩;rw[← hN] at fZ jA;rw[← hD] at HD5 jA;have HQ:Hid (q1C A B p=q0w N D):=by show q1C A B p=q0w N D;rw[hN,hD];rfl
      have HX:Hid (decide (upP A p%loP B p=0)=decide (N%D=0)):=by rw[hN,hD];exact rfl
      clear hN hD mr jT;go_wp2_with fail;have ha1:=(G.refl w5).alloc (.cells #[.bool false,.slice none 0 0] 38);have ha2:=ha1.alloc (.cells #[.bool false,.slice none 0 0] 38);have hq0:=(NI.new (G.trans bV (G.refl w5)) 38).G ((G.refl (w5.alloc (.cells #[.bool false,.slice none 0 0] 38))).alloc (.cells #[.bool false,.slice none 0 0] 38));have hr0:=NI.new (G.trans bV ha1) 38;rw[show (w5.alloc (.cells #[.bool false,.slice none 0 0] 38)).heap.size=w5.heap.size+1 from by simp] at hr0;have KC:=fZ.out.G ha2;have hD6:=HD5.out.G ha2;have hpn:=fZ.out.2.1;have ru:=HD5.out.2.1;have pJ:=G.trans bV ha2;obtain⟨pr,hpr⟩:∃ pr,pr=w5.heap.size+1:=⟨_,rfl⟩;rw[← hpr] at hr0 ⊢;generalize hpq:w5.heap.size=pq at *;generalize (w5.alloc (.cells #[.bool false,.slice none 0 0] 38)).alloc (.cells #[.bool false,.slice none 0 0] 38)=w6 at *;have KD:pr≠pq:=by omega
      have hnq:pn≠pq:=by omega
      have Ob:pd≠pq:=by omega
      have hnr:pn≠pr:=by omega
      have hdr:pd≠pr:=by omega
      refine q00 (q6o w6 pq 0 pn 0 pd 0 pr 0 0 0 N D (2*K) (by omega) jA.out.1 jA.out.2.1 (by have:=jA.out.2.2;omega) hq0.2.1 hr0.2.1 KC.2.1 hD6.2.1 hq0.2.2 hr0.2.2 (Or.inl KD) KC.2.2 hD6.2.2) ?_;intro e w8 KE;obtain⟨rfl,w7,e1,e2,hs7,Oc⟩:=KE;obtain⟨-,ED,Od,-,KF⟩:=SetTo.step pJ hq0 hs7;have Oe:=KF pr 0 KD hr0;have hD7:=KF pd D Ob hD6;obtain⟨-,vL,KG,-,KH⟩:=SetTo.step ED Oe Oc;have KJ:=KH pq _ KD.symm Od;have Og:=KH pd _ hdr hD7;rw[show Int.tdiv (N:Int) D=((N/D:Nat):Int) from rfl] at KJ;rw[show Int.tmod (N:Int) D=((N%D:Nat):Int) from rfl] at KG;have kS:Hid (NI w w8 pq ((N/D:Nat):Int)):=KJ;have KL:Hid (NI w w8 pr ((N%D:Nat):Int)):=KG;have aW:Hid (NI w w8 pd (D:Int)):=Og;clear hs7 Oc KF KH Od Oe hD7 KJ KG Og ED hq0 hr0 KC hD6 ha1 ha2 pJ fZ HD5 bV hpq hpr hpn ru hnq hnr Ob;go_wp2_with fail;have fU:Hid _:=q7a w8 pr 0 _ KL.out.2.2;have KN:Hid ((((N%D:Nat):Int).sign==0)=decide (N%D=0)):=by
       show (((N%D:Nat):Int).sign==0)=decide (N%D=0);generalize N%D=z;by_cases hz:z=0
       ·subst hz;rfl
       ·have:(z:Int).sign=1:=Int.sign_eq_one_of_pos (by omega);rw[this];simp [hz]
      obtain⟨sgn,EE⟩:∃ sgn,sgn=((N%D:Nat):Int).sign:=⟨_,rfl⟩;rw[← EE] at fU KN;clear EE;have hmd:N%D≤N:=Nat.mod_le _ _;have EF:N%D*2<2^(32*(2*K+1)):=by
       have h1:=jA.out.1;have h2:2^(32*(2*K))*2≤2^(32*(2*K+1)):=by rw[← Nat.pow_succ];exact Nat.pow_le_pow_right (by omega) (by omega)
       omega
      have hD2:D<2^(32*(2*K+1)):=Nat.lt_of_lt_of_le jA.out.2.1 (Nat.pow_le_pow_right (by omega) (by omega));have EG:Hid (N%D*2<2^(32*(2*K+1))):=EF;have Cb:Hid (N%D<2^(32*(2*K))):=Nat.lt_of_le_of_lt hmd jA.out.1;have qg:Hid (D<2^(32*(2*K+1))):=hD2;clear hmd EF hD2;refine q00 fU.out ?_;rintro e w9 ⟨rfl,mD⟩;have KO:=G.trans vL mD;have lM:Hid (NI w w9 pq ((N/D:Nat):Int)):=kS.out.G mD;have KP:Hid (NI w w9 pr ((N%D:Nat):Int)):=KL.out.G mD;have aZ:Hid (NI w w9 pd (D:Int)):=aW.out.G mD;clear mD kS KL aW fU vL;go_wp2_with fail;have hc0:=NI.new KO 38;have ha1:=(G.refl w9).alloc (.cells #[.bool false,.slice none 0 0] 38);have zV:=KP.out.G ha1;have EH:=lM.out.G ha1;have EI:=aZ.out.G ha1;have bK:=G.trans KO ha1;have hcq:pq≠w9.heap.size:=by have:=lM.out.2.1;omega
      have hcr:pr≠w9.heap.size:=by have:=KP.out.2.1;omega
      have hcd:pd≠w9.heap.size:=by have:=aZ.out.2.1;omega
      generalize w9.heap.size=pc at *;refine q00 (q1L _ pc 0 pr 0 1 0 _ (2*K) (by omega) (by omega) (by rw[Int.natAbs_natCast];exact Cb.out) hc0.2.1 zV.2.1 hc0.2.2 zV.2.2) ?_;intro e aR hs;obtain⟨rfl,EJ,vS,-,hk10⟩:=SetTo.step bK hc0 hs;have EK:=hk10 pq _ hcq EH;have zW:=hk10 pd _ hcd EI;rw[show ((N%D:Nat):Int)*2^1=((N%D*2:Nat):Int) from by push_cast;rfl] at vS;have bI:Hid _:=q4L aR pc 0 pd 0 _ _ (2*K+1) (by omega) (by rw[Int.natAbs_natCast];exact EG.out) (by rw[Int.natAbs_natCast];exact qg.out) vS.2.1 zW.2.1 vS.2.2 zW.2.2;have jg:Hid (NI w aR pq ((N/D:Nat):Int)):=EK;clear hs hk10 EK zW vS EH EI zV bK ha1 hc0 lM KP aZ KO;go_wp2_with fail;refine q00 bI.out ?_;rintro e dH ⟨rfl,zX⟩;have qh:=G.trans EJ zX;have ic:Hid (NI w dH pq ((N/D:Nat):Int)):=jg.out.G zX;clear zX jg bI EJ Cb EG qg;have oF:Hid (q0w N D=N/D+(if 0<cmpI ((N%D*2:Nat):Int) (D:Int)∨(cmpI ((N%D*2:Nat):Int) (D:Int)=0∧N/D%2=1) then 1 else 0)):=q7A;have hcv:cmpI ((N%D*2:Nat):Int) (D:Int)=1∨cmpI ((N%D*2:Nat):Int) (D:Int)=0∨cmpI ((N%D*2:Nat):Int) (D:Int)= -1:=by unfold cmpI;split<;>(try split)<;>simp
      have EL:N/D<2^(32*(2*K)):=Nat.lt_of_le_of_lt (Nat.div_le_self _ _) jA.out.1;have sZ:Hid (N/D<2^(32*(2*K))):=EL;generalize cmpI ((N%D*2:Nat):Int) (D:Int)=cv at *;generalize N/D=Q0 at *;clear EL;rcases hcv with rfl|rfl|rfl
      case' inl=>
       rw[if_pos (by omega)] at oF;go_wp2_with fail;refine q00 (q1q dH 1 (by omega)) ?_;intro e kV hni;obtain⟨p1,rfl,om,zY,tq,tu⟩:=hni;have tC:=G.trans qh om;have iU:=ic.out.G om;have hne:p1≠pq:=by have:=ic.out.2.1;omega
       have hq1:Q0<2^(32*(2*K+1)):=Nat.lt_of_lt_of_le sZ.out (Nat.pow_le_pow_right (by omega) (by omega));have EM:1<2^(32*(2*K+1)):=Nat.one_lt_two_pow (by omega);have HAD:Hid _:=q7l kV pq 0 pq 0 p1 0 Q0 Q0 1 (2*K+1) (by omega) hq1 EM iU.2.1 iU.2.1 tq iU.2.2 iU.2.2 tu;have tF:Hid (NI w kV pq (Q0:Int)):=iU;clear om ic iU hq1 EM zY tq tu qh;go_wp2_with fail;refine q00 HAD.out ?_;intro e uk hs;obtain⟨rfl,tH,oq,-,-⟩:=SetTo.step tC tF.out hs;rw[show (Q0:Int)+1=((Q0+1:Nat):Int) from by omega,← oF.out] at oq;have ou:Hid (NI w uk pq ((q0w N D:Nat):Int)):=oq;clear hs oq HAD tF tC hne;go_wp2_with fail
      case' inr.inl=>
       obtain⟨z,hz,hz1⟩:∃ z:Nat,Q0/2^0%2=z∧z≤1:=⟨_,rfl,by omega⟩;have KR:Hid _:=qc9 dH pq 0 0 Q0 (2*K) (by omega) (by omega) sZ.out (by omega) ic.out.2.2;rw[Int.natAbs_natCast,hz] at KR;rw[Nat.pow_zero,Nat.div_one] at hz;rw[hz] at oF;clear hz;go_wp2_with fail;refine q00 KR.out ?_;rintro e fT ⟨rfl,zZ⟩;have vT:=G.trans qh zZ;have mU:Hid (NI w fT pq (Q0:Int)):=ic.out.G zZ;clear zZ ic qh KR;by_cases hz0:z=1
       case' pos=>
        subst hz0;rw[if_pos (by simp)] at oF;go_wp2_with fail;refine q00 (q1q fT 1 (by omega)) ?_;intro e kV hni;obtain⟨p1,rfl,om,zY,tq,tu⟩:=hni;have tC:=G.trans vT om;have iU:=mU.out.G om;have hne:p1≠pq:=by have:=mU.out.2.1;omega
        have hq1:Q0<2^(32*(2*K+1)):=Nat.lt_of_lt_of_le sZ.out (Nat.pow_le_pow_right (by omega) (by omega));have EM:1<2^(32*(2*K+1)):=Nat.one_lt_two_pow (by omega);have HAD:Hid _:=q7l kV pq 0 pq 0 p1 0 Q0 Q0 1 (2*K+1) (by omega) hq1 EM iU.2.1 iU.2.1 tq iU.2.2 iU.2.2 tu;have tF:Hid (NI w kV pq (Q0:Int)):=iU;clear om mU iU hq1 EM zY tq tu vT;go_wp2_with fail;refine q00 HAD.out ?_;intro e uk hs;obtain⟨rfl,tH,oq,-,-⟩:=SetTo.step tC tF.out hs;rw[show (Q0:Int)+1=((Q0+1:Nat):Int) from by omega,← oF.out] at oq;have ou:Hid (NI w uk pq ((q0w N D:Nat):Int)):=oq;clear hs oq HAD tF tC hne;go_wp2_with fail
       case' neg=>
        obtain rfl:z=0:=by omega
        rw[if_neg (by simp)] at oF;go_wp2_with fail;have ou:Hid (NI w fT pq ((q0w N D:Nat):Int)):=by rw[oF.out,Nat.add_zero];exact mU.out
        have tH:=vT;clear mU vT
      case' inr.inr=>
       rw[if_neg (by omega)] at oF;have ou:Hid (NI w dH pq ((q0w N D:Nat):Int)):=by rw[oF.out,Nat.add_zero];exact ic.out
       have tH:=qh;clear ic qh;go_wp2_with fail
      all_goals as_aux_lemma=>
       have wX:q0w N D<2^(32*(2*K+1)):=by
        have h1:=oF.out;have h2:=sZ.out;have h3:2^(32*(2*K))*2≤2^(32*(2*K+1)):=by rw[← Nat.pow_succ];exact Nat.pow_le_pow_right (by omega) (by omega)
        omega
       have A7:=blen_le_iff.2 wX;obtain⟨Q,hQ⟩:∃ Q,Q=q0w N D:=⟨_,rfl⟩;rw[← hQ] at HQ ou wX A7;have DF:Hid _:=q2G _ pq 0 Q (2*K+1) (by omega) (by rw[Int.natAbs_natCast];exact wX) ou.out.2.2;rw[Int.natAbs_natCast] at DF;have KS:Hid (Q<2^(32*(2*K+1))):=wX;obtain⟨LQ,KU⟩:∃ LQ,LQ=blen Q:=⟨_,rfl⟩;rw[← KU] at DF A7;have A8:Hid (LQ=blen Q):=KU;have Tk:(LQ:Int)≤700000:=by omega
       clear hQ wX KU A7 oF sZ;refine q00 DF.out ?_;rintro e kL ⟨rfl,A9⟩;have Aa:=G.trans tH A9;have kW:Hid (NI w kL pq (Q:Int)):=ou.out.G A9;clear A9 ou tH DF;by_cases hb1:LQ≤m
       ·have KV:decide (LQ≤m)=true:=by simpa using hb1
        have HB1:Hid (LQ≤m):=hb1;clear hb1;go_wp2_with fail
        go_ret3
        exact⟨pq,Q,p,p,sgn==0,rfl,Aa,kW.out,⟨Or.inl ⟨by rw[HQ.out,← A8.out];exact HB1.out,HQ.out.symm,rfl⟩,by rw[HX.out];exact KN.out⟩,HAT.out⟩
       ·have KV:decide (LQ≤m)=false:=by simpa using hb1
        have HB1:Hid (¬ LQ≤m):=hb1;have Ab:Hid _:=q2G _ pq 0 Q (2*K+1) (by omega) (by rw[Int.natAbs_natCast];exact KS.out) kW.out.2.2;rw[Int.natAbs_natCast,← A8.out] at Ab;have gY:Q≠0:=by
         intro h0;have:=A8.out;rw[h0] at this;have h2:blen 0=0:=rfl;omega
        have Tm:Hid (Q≠0):=gY;clear hb1 gY;go_wp2_with fail;refine q00 Ab.out ?_;rintro e w16 ⟨rfl,Ac⟩;have Ad:=G.trans Aa Ac;have vU:Hid (NI w w16 pq (Q:Int)):=kW.out.G Ac;clear Ac kW Aa Ab;have hnext:¬ q5M m Q→q2h A B m p0 (p+1)∧p=p0:=fun hs=>by
         rw[← HQ.out] at hs;obtain⟨h1,h2⟩:=q7i jU.out HB0.out AZ.out HAT.out hs;exact⟨h2,h1⟩
        have oW:Hid (¬ q5M m Q→q2h A B m p0 (p+1)∧p=p0):=hnext;clear hnext;by_cases hb2:LQ=m+1
        ·have KW:((LQ:Int)==(m:Int)+1)=true:=by simp;omega
         have nS:Hid (LQ=m+1):=hb2;have Oh:Hid (Calls Tryz.prog 201 #[.pointer (some ⟨pq,0,none⟩)] w16 (qbV w16 Q)):=qcl w16 pq 0 Q (2*K+1) (by omega) (by rw[Int.natAbs_natCast];exact KS.out) (by rw[Int.natAbs_natCast];exact Tm.out) vU.out.2.1 vU.out.2.2;have Us:IntKind.u64.wrap (m:Int)=m:=by rw[IntKind.wrap_u64];omega
         clear hb2;go_wp2_with fail;refine q00 Oh.out ?_;intro e uX htz;obtain⟨k,rfl,hk,Ae⟩:=htz;have Af:=G.trans Ad Ae;have tJ:Hid (NI w uX pq (Q:Int)):=vU.out.G Ae;have Gg:Hid (q1Y Q k):=hk;clear Ae vU Ad Oh hk;by_cases EO:m≤k
         ·have KX:decide (m≤k)=true:=by simpa using EO
          have Oi:Q%2^m=0:=by
           obtain⟨h1,-⟩:=Gg.out;exact Nat.mod_eq_zero_of_dvd (Nat.dvd_trans (Nat.pow_dvd_pow 2 EO) (Nat.dvd_of_mod_eq_zero h1))
          have Tn:Hid (Q%2^m=0):=Oi;have BF:Hid (Calls Tryz.prog 202 #[.pointer (some ⟨pq,0,none⟩),.pointer (some ⟨pq,0,none⟩),.int .u64 ((1:Nat):Int)] uX (SetTo uX pq 0 ((Q/2^1:Nat):Int))):=
           qbY uX pq 0 pq 0 1 Q Q (2*K+1) (by omega) (by omega) (by rw[Int.natAbs_natCast];exact KS.out) (by omega) tJ.out.2.1 tJ.out.2.2 tJ.out.2.2
          clear EO Oi;go_wp2_with fail;refine q00 BF.out ?_;intro e Tp hs;obtain⟨rfl,KY,EP,-,-⟩:=SetTo.step Af tJ.out hs;have KZ:Hid (NI w Tp pq ((Q/2^1:Nat):Int)):=EP;clear hs EP tJ Af BF;go_wp2_with fail
          go_ret3
          exact⟨pq,Q/2^1,p+1,p,sgn==0,rfl,KY,KZ.out,⟨Or.inr ⟨by rw[HQ.out,← A8.out];exact nS.out,by rw[HQ.out];exact Tn.out,by rw[HQ.out,Nat.pow_one],rfl⟩,by rw[HX.out];exact KN.out⟩,HAT.out⟩
         ·have KX:decide (m≤k)=false:=by simpa using EO
          have hns:¬ q5M m Q:=by
           rintro(h|⟨-,h⟩)
           ·exact HB1.out (by rw[A8.out];exact h)
           ·obtain⟨h1,h2⟩:=Gg.out;have h3:2^(k+1)∣Q:=Nat.dvd_trans (Nat.pow_dvd_pow 2 (by omega)) (Nat.dvd_of_mod_eq_zero h);have h4:Q%2^(k+1)=0:=Nat.mod_eq_zero_of_dvd h3;rw[Nat.pow_succ,Nat.mod_mul,h1,h2] at h4;have:=Nat.two_pow_pos k;omega
          obtain⟨tK,Ag⟩:=oW.out hns;have Ah:Hid (q2h A B m p0 (p+1)):=tK;have hle1:p0≤p+1:=by omega
          have hle2:p+1≤p0+1:=by omega
          have L6:Hid ((p0+2-(p+1)).toNat<(p0+2-p).toNat):=by show (p0+2-(p+1)).toNat<(p0+2-p).toNat;omega
          clear hns tK EO Ag;go_wp2_with fail
          go_roundw
          case rel=>exact⟨p+1,by go_num,Ah.out,hle1,hle2,Af⟩
          case measure=>have h1:=Ky.out;have h2:(p0+2-(p+1)).toNat<(p0+2-p).toNat:=L6.out;simp only[intOf];omega
        ·have KW:((LQ:Int)==(m:Int)+1)=false:=by simp;omega
         have hns:¬ q5M m Q:=by
          rintro(h|⟨h,-⟩)
          ·exact HB1.out (by rw[A8.out];exact h)
          ·exact hb2 (by rw[A8.out];exact h)
         obtain⟨tK,Ag⟩:=oW.out hns;have Ah:Hid (q2h A B m p0 (p+1)):=tK;have hle1:p0≤p+1:=by omega
         have hle2:p+1≤p0+1:=by omega
         have L6:Hid ((p0+2-(p+1)).toNat<(p0+2-p).toNat):=by show (p0+2-(p+1)).toNat<(p0+2-p).toNat;omega
         clear hns tK hb2 Ag;go_wp2_with fail
         go_roundw
         case rel=>exact⟨p+1,by go_num,Ah.out,hle1,hle2,Ad⟩
         case measure=>have h1:=Ky.out;have h2:(p0+2-(p+1)).toNat<(p0+2-p).toNat:=L6.out;simp only[intOf];omega
end Go.Proofs.YtbfjihniphldaaaGreatDoor
