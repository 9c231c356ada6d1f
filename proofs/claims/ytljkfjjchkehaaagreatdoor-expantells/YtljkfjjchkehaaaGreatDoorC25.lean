/- What is proved here: contracts of the reference's big numbers: near, over this seat's translation. -/
import Derived.Test.YtljkfjjchkehaaaGreatDoorC24
import Derived.OwnWalk
namespace Go.Proofs.YtljkfjjchkehaaaGreatDoor
open Go.ChangeShapes Go.WideShapes Go.ChangeAt Go.RowKit
open BN
def qax (w:World) (A B m:Nat) (p0:Int) (e:Ending) (w':World):Prop:=
 ∃ (q v:Nat) (P p:Int) (x:Bool),e= .returned (.tuple #[.pointer (some ⟨q,0,none⟩),.int .i64 P,.bool x])∧G w w'∧NI w w' q (v:Int)∧q5C A B m p v P x∧q23 A B m p0 p
set_option maxRecDepth 10000 in
set_option maxHeartbeats 4000000 in
theorem qbA (w:World) (ba oa bb ob A B m K:Nat) (low:Int) (hK:K≤10000) (hK1:100≤K) (jN:A≠0) (hB0:B≠0) (hA2:A<2^(32*K)) (hB2:B<2^(32*K)) (hm1:1≤m) (hm:m≤64) (hlow: -2000≤low) (Ph:low≤2000)
  (jX:ba<w.heap.size) (hbb:bb<w.heap.size) (ha:IntIs w ba oa (A:Int)) (hb:IntIs w bb ob (B:Int)):
  Calls Tryz.prog 84 #[.pointer (some ⟨ba,oa,none⟩),.pointer (some ⟨bb,ob,none⟩),.int .i64 (m:Int),.int .i64 low] w (qax w A B m (q1k A B m low)):=by
 have hla:=blen_le_iff.2 hA2
 have hlb:=blen_le_iff.2 hB2
 have CL:Hid (∀ w1,G w w1→_):=fun w1 g=>q2i w1 ba oa A K (by omega) hA2 (ha.G jX g)
 have AU:Hid (∀ w1,G w w1→_):=fun w1 g=>q2i w1 bb ob B K (by omega) hB2 (hb.G hbb g)
 rw[Int.natAbs_natCast] at CL AU
 have yR:Hid (∀ w0 w1 p,G w w1→NI w0 w1 p 0→_):=fun w0 w1 p g h=>q9c w1 p 0 ba oa 0 A K (by omega) hA2 h.2.1 (G.lt g jX) h.2.2 (ha.G jX g)
 have pM:Hid (∀ w0 w1 p,G w w1→NI w0 w1 p 0→_):=fun w0 w1 p g h=>q9c w1 p 0 bb ob 0 B K (by omega) hB2 h.2.1 (G.lt g hbb) h.2.2 (hb.G hbb g)
 have TE:(m:Int)≤64:=by omega
 have TF:(blen A:Int)≤320000:=by omega
 have TG:(blen B:Int)≤320000:=by omega
 have kT:Hid (A≠0):=jN
 have HB0:Hid (B≠0):=hB0
 have HA2:Hid _:=hA2
 have HB2:Hid _:=hB2
 by_cases hpl:(blen A:Int)-blen B-m<low
 case' pos=>
  obtain⟨p0,hp0⟩:∃ p0,p0=q1k A B m low:=⟨_,rfl⟩
  have Pj:Hid _:=hp0
  have nG:=hp0
  unfold q1k at nG
  rw[if_pos hpl] at nG
  rw[← hp0]
  have hp1: -(32*(K:Int))≤p0:=by omega
  have hp2:p0+1≤32*(K:Int):=by omega
  have CS:decide ((blen A:Int)-blen B-m<low)=true:=by simpa using hpl
  generalize blen A=LA at *
  generalize blen B=LB at *
  subst nG
  clear jN hB0 hA2 hB2 hp0 ha hb hpl hla hlb
 case' neg=>
  obtain⟨p0,hp0⟩:∃ p0,p0=q1k A B m low:=⟨_,rfl⟩
  have Pj:Hid _:=hp0
  have nG:=hp0
  unfold q1k at nG
  rw[if_neg hpl] at nG
  rw[← hp0]
  have hp1: -(32*(K:Int))≤p0:=by omega
  have hp2:p0+1≤32*(K:Int):=by omega
  have CS:decide ((blen A:Int)-blen B-m<low)=false:=by simpa using hpl
  rw[← nG] at CS
  generalize blen A=LA at *
  generalize blen B=LB at *
  have hpe:(LA:Int)-LB-m=p0:=nG.symm
  clear jN hB0 hA2 hB2 hp0 ha hb hpl hla hlb nG
 all_goals
  go_enter Tryz.func84,Tryz.ntmps84
  go_wp2_with fail
  refine Calls.mono (P:=Tryz.prog) (CL.out w (G.refl _)) ?_
  rintro e w1 ⟨rfl,hg1⟩
  go_wp2_with fail
  refine Calls.mono (P:=Tryz.prog) (AU.out w1 hg1) ?_
  rintro e w2 ⟨rfl,hg2⟩
  have hG2:=G.trans hg1 hg2
  go_wp2_with fail
  clear hg1 hg2 CL AU CS
  go_loopw [11] (fun vp wr=>∃ p:Int,vp= .int .i64 p∧q23 A B m p0 p∧p0≤p∧p≤p0+1∧G w wr) (fun vp _=>(p0+2-intOf vp).toNat)
  case atStart=>exact⟨p0,rfl,Or.inl rfl,Int.le_refl _,by omega,hG2⟩
  case round=>
   obtain⟨p,rfl,hat,Pk,hpb,hG⟩:=hrel
   have HAT:Hid (q23 A B m p0 p):=hat
   have Fw: -320000≤p:=by omega
   have hpi2:p≤320000:=by omega
   clear hat hG2
   as_aux_lemma=>
    go_wp2_with fail
    have hn0:=NI.new hG 38
    have gq:=G.trans hG ((G.refl wr).alloc (.cells #[.bool false,.slice none 0 0] 38))
    refine Calls.mono (P:=Tryz.prog) (yR.out w _ _ gq hn0) ?_
    intro e w3 hs
    obtain⟨rfl,hG3,mf,-,-⟩:=SetTo.step gq hn0 hs
    clear hs hn0 gq
    generalize wr.heap.size=pn at *
    clear hG
    go_wp2_with fail
    have hn0:=NI.new hG3 38
    have xJ:=mf.G ((G.refl w3).alloc (.cells #[.bool false,.slice none 0 0] 38))
    have gq:=G.trans hG3 ((G.refl w3).alloc (.cells #[.bool false,.slice none 0 0] 38))
    have hne:w3.heap.size≠pn:=by have:=mf.2.1;omega
    refine Calls.mono (P:=Tryz.prog) (pM.out w _ _ gq hn0) ?_
    intro e w4 hs
    obtain⟨rfl,hG4,hD4,-,hkp⟩:=SetTo.step gq hn0 hs
    have jf:Hid (NI w w4 pn A):=hkp pn A hne.symm xJ
    have HD4:Hid (NI w w4 w3.heap.size B):=hD4
    clear hs hn0 gq hkp xJ mf hG3 hD4
    generalize w3.heap.size=pd at *
    have oN:Hid (upP A p<2^(32*(2*K))∧loP B p<2^(32*(2*K))∧loP B p≠0):=⟨qbO HA2.out (by omega),qc0 HB2.out (by omega),Nat.pos_iff_ne_zero.1 (q2B HB0.out)⟩
    by_cases CX:0≤p
    case' pos=>
     obtain⟨k,rfl⟩:∃ k:Nat,p=k:=Int.eq_ofNat_of_zero_le CX
     have HL:Hid (Calls Tryz.prog 113 #[.pointer (some ⟨pd,0,none⟩),.pointer (some ⟨pd,0,none⟩),.int .u64 (k:Int)] w4 (SetTo w4 pd 0 ((B:Int)*2^k))):=
      q2u w4 pd 0 pd 0 k B B K (by omega) (by omega) HB2.out HD4.out.2.1 HD4.out.2.1 HD4.out.2.2 HD4.out.2.2
     have hEq:(B:Int)*2^k=((loP B k:Nat):Int):=by unfold loP;push_cast;rfl
     have ve:(A:Int)=((upP A k:Nat):Int):=by unfold upP;rw[show (-(k:Int)).toNat=0 from by omega];simp
     rw[hEq] at HL
     have HE2:Hid _:=ve
     clear hEq ve
     go_wp2_with fail
     refine Calls.mono (P:=Tryz.prog) HL.out ?_
     intro e w5 hs
     obtain⟨rfl,fQ,hD5,-,hkp⟩:=SetTo.step hG4 HD4.out hs
     have jL:=hkp pn A hne.symm jf.out
     rw[HE2.out] at jL
     have jE:Hid (NI w w5 pn (upP A (k:Int):Nat)):=jL
     have HD5:Hid (NI w w5 pd (loP B (k:Int):Nat)):=hD5
     clear hs hkp hD5 jL HE2 HL jf HD4 hG4
     obtain⟨p,hp⟩:∃ p:Int,p=(k:Int):=⟨_,rfl⟩
     rw[← hp] at jE HD5 CX Pk hpb Fw hpi2 oN HAT ⊢
     have Mv:Hid _:=hp
     clear hp CX
    case' neg=>
     obtain⟨k,hk⟩:∃ k:Nat,p= -(k:Int):=⟨(-p).toNat,by omega⟩
     have Mw:decide (0≤p)=false:=by simpa using CX
     subst hk
     have HL:Hid (Calls Tryz.prog 113 #[.pointer (some ⟨pn,0,none⟩),.pointer (some ⟨pn,0,none⟩),.int .u64 (k:Int)] w4 (SetTo w4 pn 0 ((A:Int)*2^k))):=
      q2u w4 pn 0 pn 0 k A A K (by omega) (by omega) HA2.out jf.out.2.1 jf.out.2.1 jf.out.2.2 jf.out.2.2
     have hEq:(A:Int)*2^k=((upP A (-(k:Int)):Nat):Int):=by unfold upP;rw[show (-(-(k:Int))).toNat=k from by omega];push_cast;rfl
     have ve:(B:Int)=((loP B (-(k:Int)):Nat):Int):=by unfold loP;rw[show (-(k:Int)).toNat=0 from by omega];simp
     rw[hEq] at HL
     have HE2:Hid _:=ve
     clear hEq ve
     go_wp2_with fail
     refine Calls.mono (P:=Tryz.prog) HL.out ?_
     intro e w5 hs
     obtain⟨rfl,fQ,jL,-,hkp⟩:=SetTo.step hG4 jf.out hs
     have hD5:=hkp pd B hne HD4.out
     rw[HE2.out] at hD5
     have jE:Hid (NI w w5 pn (upP A (-(k:Int)):Nat)):=jL
     have HD5:Hid (NI w w5 pd (loP B (-(k:Int)):Nat)):=hD5
     clear hs hkp hD5 jL HE2 HL jf HD4 hG4 Mw
     obtain⟨p,hp⟩:∃ p:Int,p= -(k:Int):=⟨_,rfl⟩
     rw[← hp] at jE HD5 CX Pk hpb Fw hpi2 oN HAT ⊢
     have Mv:Hid _:=hp
     clear hp CX
    all_goals
     as_aux_lemma=>
      obtain⟨N,hN⟩:∃ N,N=upP A p:=⟨_,rfl⟩
      obtain⟨D,hD⟩:∃ D,D=loP B p:=⟨_,rfl⟩
      rw[← hN] at jE oN
      rw[← hD] at HD5 oN
      have HQ:Hid (q1t A B p=q0t N D):=by show q1t A B p=q0t N D;rw[hN,hD];rfl
      have HX:Hid (decide (upP A p%loP B p=0)=decide (N%D=0)):=by rw[hN,hD];exact rfl
      clear hN hD yR pM
      go_wp2_with fail
      have ha1:=(G.refl w5).alloc (.cells #[.bool false,.slice none 0 0] 38)
      have ha2:=ha1.alloc (.cells #[.bool false,.slice none 0 0] 38)
      have hq0:=(NI.new (G.trans fQ (G.refl w5)) 38).G ((G.refl (w5.alloc (.cells #[.bool false,.slice none 0 0] 38))).alloc (.cells #[.bool false,.slice none 0 0] 38))
      have hr0:=NI.new (G.trans fQ ha1) 38
      rw[show (w5.alloc (.cells #[.bool false,.slice none 0 0] 38)).heap.size=w5.heap.size+1 from by simp] at hr0
      have Mx:=jE.out.G ha2
      have hD6:=HD5.out.G ha2
      have hpn:=jE.out.2.1
      have CS:=HD5.out.2.1
      have wN:=G.trans fQ ha2
      obtain⟨pr,hpr⟩:∃ pr,pr=w5.heap.size+1:=⟨_,rfl⟩
      rw[← hpr] at hr0 ⊢
      generalize hpq:w5.heap.size=pq at *
      generalize (w5.alloc (.cells #[.bool false,.slice none 0 0] 38)).alloc (.cells #[.bool false,.slice none 0 0] 38)=w6 at *
      have MB:pr≠pq:=by omega
      have hnq:pn≠pq:=by omega
      have Pm:pd≠pq:=by omega
      have hnr:pn≠pr:=by omega
      have hdr:pd≠pr:=by omega
      refine Calls.mono (P:=Tryz.prog) (q9l w6 pq 0 pn 0 pd 0 pr 0 0 0 N D (2*K) (by omega) oN.out.1 oN.out.2.1 (by have:=oN.out.2.2;omega) hq0.2.1 hr0.2.1 Mx.2.1 hD6.2.1 hq0.2.2 hr0.2.2 (Or.inl MB) Mx.2.2 hD6.2.2) ?_
      intro e w8 MC
      obtain⟨rfl,w7,e1,e2,hs7,Pn⟩:=MC
      obtain⟨-,Fx,Po,-,ME⟩:=SetTo.step wN hq0 hs7
      have Pp:=ME pr 0 MB hr0
      have hD7:=ME pd D Pm hD6
      obtain⟨-,xy,MF,-,MG⟩:=SetTo.step Fx Pp Pn
      have MH:=MG pq _ MB.symm Po
      have Pq:=MG pd _ hdr hD7
      rw[show Int.tdiv (N:Int) D=((N/D:Nat):Int) from rfl] at MH
      rw[show Int.tmod (N:Int) D=((N%D:Nat):Int) from rfl] at MF
      have vo:Hid (NI w w8 pq ((N/D:Nat):Int)):=MH
      have MI:Hid (NI w w8 pr ((N%D:Nat):Int)):=MF
      have bV:Hid (NI w w8 pd (D:Int)):=Pq
      clear hs7 Pn ME MG Po Pp hD7 MH MF Pq Fx hq0 hr0 Mx hD6 ha1 ha2 wN jE HD5 fQ hpq hpr hpn CS hnq hnr Pm
      go_wp2_with fail
      have MJ:Hid _:=q7c w8 pr 0 _ MI.out.2.2
      have CY:Hid ((((N%D:Nat):Int).sign==0)=decide (N%D=0)):=by
       show (((N%D:Nat):Int).sign==0)=decide (N%D=0)
       generalize N%D=z
       by_cases hz:z=0
       ·subst hz;rfl
       ·have:(z:Int).sign=1:=Int.sign_eq_one_of_pos (by omega)
        rw[this];simp [hz]
      obtain⟨sgn,Fy⟩:∃ sgn,sgn=((N%D:Nat):Int).sign:=⟨_,rfl⟩
      rw[← Fy] at MJ CY
      clear Fy
      have hmd:N%D≤N:=Nat.mod_le _ _
      have Fz:N%D*2<2^(32*(2*K+1)):=by
       have h1:=oN.out.1
       have h2:2^(32*(2*K))*2≤2^(32*(2*K+1)):=by rw[← Nat.pow_succ];exact Nat.pow_le_pow_right (by omega) (by omega)
       omega
      have hD2:D<2^(32*(2*K+1)):=Nat.lt_of_lt_of_le oN.out.2.1 (Nat.pow_le_pow_right (by omega) (by omega))
      have FB:Hid (N%D*2<2^(32*(2*K+1))):=Fz
      have Ps:Hid (N%D<2^(32*(2*K))):=Nat.lt_of_le_of_lt hmd oN.out.1
      have tK:Hid (D<2^(32*(2*K+1))):=hD2
      clear hmd Fz hD2
      refine Calls.mono (P:=Tryz.prog) MJ.out ?_
      rintro e w9 ⟨rfl,uT⟩
      have MK:=G.trans xy uT
      have pG:Hid (NI w w9 pq ((N/D:Nat):Int)):=vo.out.G uT
      have ML:Hid (NI w w9 pr ((N%D:Nat):Int)):=MI.out.G uT
      have dx:Hid (NI w w9 pd (D:Int)):=bV.out.G uT
      clear uT vo MI bV MJ xy
      go_wp2_with fail
      have hc0:=NI.new MK 38
      have ha1:=(G.refl w9).alloc (.cells #[.bool false,.slice none 0 0] 38)
      have BU:=ML.out.G ha1
      have FC:=pG.out.G ha1
      have FD:=dx.out.G ha1
      have gq:=G.trans MK ha1
      have hcq:pq≠w9.heap.size:=by have:=pG.out.2.1;omega
      have hcr:pr≠w9.heap.size:=by have:=ML.out.2.1;omega
      have hcd:pd≠w9.heap.size:=by have:=dx.out.2.1;omega
      generalize w9.heap.size=pc at *
      refine Calls.mono (P:=Tryz.prog) (q2u _ pc 0 pr 0 1 0 _ (2*K) (by omega) (by omega) (by rw[Int.natAbs_natCast];exact Ps.out) hc0.2.1 BU.2.1 hc0.2.2 BU.2.2) ?_
      intro e aS hs
      obtain⟨rfl,FE,yc,-,hk10⟩:=SetTo.step gq hc0 hs
      have FH:=hk10 pq _ hcq FC
      have BV:=hk10 pd _ hcd FD
      rw[show ((N%D:Nat):Int)*2^1=((N%D*2:Nat):Int) from by push_cast;rfl] at yc
      have Pt:Hid _:=q65 aS pc 0 pd 0 _ _ (2*K+1) (by omega) (by rw[Int.natAbs_natCast];exact FB.out) (by rw[Int.natAbs_natCast];exact tK.out) yc.2.1 BV.2.1 yc.2.2 BV.2.2
      have nC:Hid (NI w aS pq ((N/D:Nat):Int)):=FH
      clear hs hk10 FH BV yc FC FD BU gq ha1 hc0 pG ML dx MK
      go_wp2_with fail
      refine Calls.mono (P:=Tryz.prog) Pt.out ?_
      rintro e bR ⟨rfl,BX⟩
      have tL:=G.trans FE BX
      have kP:Hid (NI w bR pq ((N/D:Nat):Int)):=nC.out.G BX
      clear BX nC Pt FE Ps FB tK
      have vv:Hid (q0t N D=N/D+(if 0<cmpI ((N%D*2:Nat):Int) (D:Int)∨(cmpI ((N%D*2:Nat):Int) (D:Int)=0∧N/D%2=1) then 1 else 0)):=q7z
      have hcv:cmpI ((N%D*2:Nat):Int) (D:Int)=1∨cmpI ((N%D*2:Nat):Int) (D:Int)=0∨cmpI ((N%D*2:Nat):Int) (D:Int)= -1:=by unfold cmpI;split<;>(try split)<;>simp
      have FI:N/D<2^(32*(2*K)):=Nat.lt_of_le_of_lt (Nat.div_le_self _ _) oN.out.1
      have vw:Hid (N/D<2^(32*(2*K))):=FI
      generalize cmpI ((N%D*2:Nat):Int) (D:Int)=cv at *
      generalize N/D=Q0 at *
      clear FI
      rcases hcv with rfl|rfl|rfl
      case' inl=>
       rw[if_pos (by omega)] at vv
       go_wp2_with fail
       refine Calls.mono (P:=Tryz.prog) (q2m bR 1 (by omega)) ?_
       intro e jg hni
       obtain⟨p1,rfl,qX,BZ,vB,vC⟩:=hni
       have vD:=G.trans tL qX
       have kG:=kP.out.G qX
       have hne:p1≠pq:=by have:=kP.out.2.1;omega
       have hq1:Q0<2^(32*(2*K+1)):=Nat.lt_of_lt_of_le vw.out (Nat.pow_le_pow_right (by omega) (by omega))
       have FJ:1<2^(32*(2*K+1)):=Nat.one_lt_two_pow (by omega)
       have HAD:Hid _:=q7m jg pq 0 pq 0 p1 0 Q0 Q0 1 (2*K+1) (by omega) hq1 FJ kG.2.1 kG.2.1 vB kG.2.2 kG.2.2 vC
       have vE:Hid (NI w jg pq (Q0:Int)):=kG
       clear qX kP kG hq1 FJ BZ vB vC tL
       go_wp2_with fail
       refine Calls.mono (P:=Tryz.prog) HAD.out ?_
       intro e fU hs
       obtain⟨rfl,vF,qY,-,-⟩:=SetTo.step vD vE.out hs
       rw[show (Q0:Int)+1=((Q0+1:Nat):Int) from by omega,← vv.out] at qY
       have qZ:Hid (NI w fU pq ((q0t N D:Nat):Int)):=qY
       clear hs qY HAD vE vD hne
       go_wp2_with fail
      case' inr.inl=>
       obtain⟨z,hz,hz1⟩:∃ z:Nat,Q0/2^0%2=z∧z≤1:=⟨_,rfl,by omega⟩
       have MM:Hid _:=qb6 bR pq 0 0 Q0 (2*K) (by omega) (by omega) vw.out (by omega) kP.out.2.2
       rw[Int.natAbs_natCast,hz] at MM
       rw[Nat.pow_zero,Nat.div_one] at hz
       rw[hz] at vv
       clear hz
       go_wp2_with fail
       refine Calls.mono (P:=Tryz.prog) MM.out ?_
       rintro e dQ ⟨rfl,C8⟩
       have yf:=G.trans tL C8
       have oU:Hid (NI w dQ pq (Q0:Int)):=kP.out.G C8
       clear C8 kP tL MM
       by_cases hz0:z=1
       case' pos=>
        subst hz0
        rw[if_pos (by simp)] at vv
        go_wp2_with fail
        refine Calls.mono (P:=Tryz.prog) (q2m dQ 1 (by omega)) ?_
        intro e jg hni
        obtain⟨p1,rfl,qX,BZ,vB,vC⟩:=hni
        have vD:=G.trans yf qX
        have kG:=oU.out.G qX
        have hne:p1≠pq:=by have:=oU.out.2.1;omega
        have hq1:Q0<2^(32*(2*K+1)):=Nat.lt_of_lt_of_le vw.out (Nat.pow_le_pow_right (by omega) (by omega))
        have FJ:1<2^(32*(2*K+1)):=Nat.one_lt_two_pow (by omega)
        have HAD:Hid _:=q7m jg pq 0 pq 0 p1 0 Q0 Q0 1 (2*K+1) (by omega) hq1 FJ kG.2.1 kG.2.1 vB kG.2.2 kG.2.2 vC
        have vE:Hid (NI w jg pq (Q0:Int)):=kG
        clear qX oU kG hq1 FJ BZ vB vC yf
        go_wp2_with fail
        refine Calls.mono (P:=Tryz.prog) HAD.out ?_
        intro e fU hs
        obtain⟨rfl,vF,qY,-,-⟩:=SetTo.step vD vE.out hs
        rw[show (Q0:Int)+1=((Q0+1:Nat):Int) from by omega,← vv.out] at qY
        have qZ:Hid (NI w fU pq ((q0t N D:Nat):Int)):=qY
        clear hs qY HAD vE vD hne
        go_wp2_with fail
       case' neg=>
        obtain rfl:z=0:=by omega
        rw[if_neg (by simp)] at vv
        go_wp2_with fail
        have qZ:Hid (NI w dQ pq ((q0t N D:Nat):Int)):=by rw[vv.out,Nat.add_zero];exact oU.out
        have vF:=yf
        clear oU yf
      case' inr.inr=>
       rw[if_neg (by omega)] at vv
       have qZ:Hid (NI w bR pq ((q0t N D:Nat):Int)):=by rw[vv.out,Nat.add_zero];exact kP.out
       have vF:=tL
       clear kP tL
       go_wp2_with fail
      all_goals as_aux_lemma=>
       have zu:q0t N D<2^(32*(2*K+1)):=by
        have h1:=vv.out
        have h2:=vw.out
        have h3:2^(32*(2*K))*2≤2^(32*(2*K+1)):=by rw[← Nat.pow_succ];exact Nat.pow_le_pow_right (by omega) (by omega)
        omega
       have C9:=blen_le_iff.2 zu
       obtain⟨Q,hQ⟩:∃ Q,Q=q0t N D:=⟨_,rfl⟩
       rw[← hQ] at HQ qZ zu C9
       have Ib:Hid _:=q2i _ pq 0 Q (2*K+1) (by omega) (by rw[Int.natAbs_natCast];exact zu) qZ.out.2.2
       rw[Int.natAbs_natCast] at Ib
       have MN:Hid (Q<2^(32*(2*K+1))):=zu
       obtain⟨LQ,MO⟩:∃ LQ,LQ=blen Q:=⟨_,rfl⟩
       rw[← MO] at Ib C9
       have Ca:Hid (LQ=blen Q):=MO
       have TH:(LQ:Int)≤700000:=by omega
       clear hQ zu MO C9 vv vw
       refine Calls.mono (P:=Tryz.prog) Ib.out ?_
       rintro e vG ⟨rfl,Cb⟩
       have Cc:=G.trans vF Cb
       have yg:Hid (NI w vG pq (Q:Int)):=qZ.out.G Cb
       clear Cb qZ vF Ib
       by_cases hb1:LQ≤m
       ·have MP:decide (LQ≤m)=true:=by simpa using hb1
        have HB1:Hid (LQ≤m):=hb1
        clear hb1
        go_wp2_with fail
        go_ret3
        exact⟨pq,Q,p,p,sgn==0,rfl,Cc,yg.out,⟨Or.inl ⟨by rw[HQ.out,← Ca.out];exact HB1.out,HQ.out.symm,rfl⟩,by rw[HX.out];exact CY.out⟩,HAT.out⟩
       ·have MP:decide (LQ≤m)=false:=by simpa using hb1
        have HB1:Hid (¬ LQ≤m):=hb1
        have Ce:Hid _:=q2i _ pq 0 Q (2*K+1) (by omega) (by rw[Int.natAbs_natCast];exact MN.out) yg.out.2.2
        rw[Int.natAbs_natCast,← Ca.out] at Ce
        have kF:Q≠0:=by
         intro h0
         have:=Ca.out
         rw[h0] at this
         have h2:blen 0=0:=rfl
         omega
        have Ic:Hid (Q≠0):=kF
        clear hb1 kF
        go_wp2_with fail
        refine Calls.mono (P:=Tryz.prog) Ce.out ?_
        rintro e w16 ⟨rfl,Cf⟩
        have Cg:=G.trans Cc Cf
        have yh:Hid (NI w w16 pq (Q:Int)):=yg.out.G Cf
        clear Cf yg Cc Ce
        have hnext:¬ q5F m Q→q23 A B m p0 (p+1)∧p=p0:=fun hs=>by
         rw[← HQ.out] at hs
         obtain⟨h1,h2⟩:=q82 kT.out HB0.out Pj.out HAT.out hs
         exact⟨h2,h1⟩
        have rX:Hid (¬ q5F m Q→q23 A B m p0 (p+1)∧p=p0):=hnext
        clear hnext
        by_cases hb2:LQ=m+1
        ·have MQ:((LQ:Int)==(m:Int)+1)=true:=by simp;omega
         have xU:Hid (LQ=m+1):=hb2
         have Pv:Hid (Calls Tryz.prog 127 #[.pointer (some ⟨pq,0,none⟩)] w16 (qbP w16 Q)):=qcj w16 pq 0 Q (2*K+1) (by omega) (by rw[Int.natAbs_natCast];exact MN.out) (by rw[Int.natAbs_natCast];exact Ic.out) yh.out.2.1 yh.out.2.2
         have V5:IntKind.u64.wrap (m:Int)=m:=by rw[IntKind.wrap_u64];omega
         clear hb2
         go_wp2_with fail
         refine Calls.mono (P:=Tryz.prog) Pv.out ?_
         intro e kM htz
         obtain⟨k,rfl,hk,Ch⟩:=htz
         have Ci:=G.trans Cg Ch
         have vH:Hid (NI w kM pq (Q:Int)):=yh.out.G Ch
         have Pw:Hid (q2v Q k):=hk
         clear Ch yh Cg Pv hk
         by_cases FK:m≤k
         ·have MR:decide (m≤k)=true:=by simpa using FK
          have Px:Q%2^m=0:=by
           obtain⟨h1,-⟩:=Pw.out
           exact Nat.mod_eq_zero_of_dvd (Nat.dvd_trans (Nat.pow_dvd_pow 2 FK) (Nat.dvd_of_mod_eq_zero h1))
          have TI:Hid (Q%2^m=0):=Px
          have Py:Hid (Calls Tryz.prog 128 #[.pointer (some ⟨pq,0,none⟩),.pointer (some ⟨pq,0,none⟩),.int .u64 ((1:Nat):Int)] kM (SetTo kM pq 0 ((Q/2^1:Nat):Int))):=
           qcb kM pq 0 pq 0 1 Q Q (2*K+1) (by omega) (by omega) (by rw[Int.natAbs_natCast];exact MN.out) (by omega) vH.out.2.1 vH.out.2.2 vH.out.2.2
          clear FK Px
          go_wp2_with fail
          refine Calls.mono (P:=Tryz.prog) Py.out ?_
          intro e nH hs
          obtain⟨rfl,MS,FL,-,-⟩:=SetTo.step Ci vH.out hs
          have MU:Hid (NI w nH pq ((Q/2^1:Nat):Int)):=FL
          clear hs FL vH Ci Py
          go_wp2_with fail
          go_ret3
          exact⟨pq,Q/2^1,p+1,p,sgn==0,rfl,MS,MU.out,⟨Or.inr ⟨by rw[HQ.out,← Ca.out];exact xU.out,by rw[HQ.out];exact TI.out,by rw[HQ.out,Nat.pow_one],rfl⟩,by rw[HX.out];exact CY.out⟩,HAT.out⟩
         ·have MR:decide (m≤k)=false:=by simpa using FK
          have hns:¬ q5F m Q:=by
           rintro(h|⟨-,h⟩)
           ·exact HB1.out (by rw[Ca.out];exact h)
           ·obtain⟨h1,h2⟩:=Pw.out
            have h3:2^(k+1)∣Q:=Nat.dvd_trans (Nat.pow_dvd_pow 2 (by omega)) (Nat.dvd_of_mod_eq_zero h)
            have h4:Q%2^(k+1)=0:=Nat.mod_eq_zero_of_dvd h3
            rw[Nat.pow_succ,Nat.mod_mul,h1,h2] at h4
            have:=Nat.two_pow_pos k
            omega
          obtain⟨vI,Cj⟩:=rX.out hns
          have Ck:Hid (q23 A B m p0 (p+1)):=vI
          have hle1:p0≤p+1:=by omega
          have hle2:p+1≤p0+1:=by omega
          have MV:Hid ((p0+2-(p+1)).toNat<(p0+2-p).toNat):=by show (p0+2-(p+1)).toNat<(p0+2-p).toNat;omega
          clear hns vI FK Cj
          go_wp2_with fail
          go_roundw
          case rel=>exact⟨p+1,by go_num,Ck.out,hle1,hle2,Ci⟩
          case measure=>have h1:=Mv.out;have h2:(p0+2-(p+1)).toNat<(p0+2-p).toNat:=MV.out;simp only[intOf];omega
        ·have MQ:((LQ:Int)==(m:Int)+1)=false:=by simp;omega
         have hns:¬ q5F m Q:=by
          rintro(h|⟨h,-⟩)
          ·exact HB1.out (by rw[Ca.out];exact h)
          ·exact hb2 (by rw[Ca.out];exact h)
         obtain⟨vI,Cj⟩:=rX.out hns
         have Ck:Hid (q23 A B m p0 (p+1)):=vI
         have hle1:p0≤p+1:=by omega
         have hle2:p+1≤p0+1:=by omega
         have MV:Hid ((p0+2-(p+1)).toNat<(p0+2-p).toNat):=by show (p0+2-(p+1)).toNat<(p0+2-p).toNat;omega
         clear hns vI hb2 Cj
         go_wp2_with fail
         go_roundw
         case rel=>exact⟨p+1,by go_num,Ck.out,hle1,hle2,Cg⟩
         case measure=>have h1:=Mv.out;have h2:(p0+2-(p+1)).toNat<(p0+2-p).toNat:=MV.out;simp only[intOf];omega
end Go.Proofs.YtljkfjjchkehaaaGreatDoor
