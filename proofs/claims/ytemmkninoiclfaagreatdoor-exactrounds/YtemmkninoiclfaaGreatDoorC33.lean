/- What is proved here: contracts of the reference's big numbers: near, over this seat's translation. -/
import Derived.Test.YtemmkninoiclfaaGreatDoorC17
import Derived.OwnWalk
namespace Go.Proofs.YtemmkninoiclfaaGreatDoor
open Go.ChangeShapes Go.WideShapes Go.ChangeAt Go.RowKit
open BN
def qa5 (w:World) (A B m:Nat) (p0:Int) (e:Ending) (w':World):Prop:=
 ∃ (q v:Nat) (P p:Int) (x:Bool),e= .returned (.tuple #[.pointer (some ⟨q,0,none⟩),.int .i64 P,.bool x])∧G w w'∧NI w w' q (v:Int)∧q5E A B m p v P x∧q2j A B m p0 p
set_option maxRecDepth 10000 in
set_option maxHeartbeats 4000000 in
theorem qbA (w:World) (ba oa bb ob A B m K:Nat) (low:Int) (hK:K≤10000) (hK1:100≤K) (gJ:A≠0) (hB0:B≠0) (hA2:A<2^(32*K)) (hB2:B<2^(32*K)) (hm1:1≤m) (hm:m≤64) (hlow: -2000≤low) (OO:low≤2000)
  (iN:ba<w.heap.size) (hbb:bb<w.heap.size) (ha:IntIs w ba oa (A:Int)) (hb:IntIs w bb ob (B:Int)):
  Calls Tryz.prog 138 #[.pointer (some ⟨ba,oa,none⟩),.pointer (some ⟨bb,ob,none⟩),.int .i64 (m:Int),.int .i64 low] w (qa5 w A B m (q1n A B m low)):=by
 have hla:=blen_le_iff.2 hA2
 have hlb:=blen_le_iff.2 hB2
 have fV:Hid (∀ w1,G w w1→_):=fun w1 g=>q2H w1 ba oa A K (by omega) hA2 (ha.G iN g)
 have Be:Hid (∀ w1,G w w1→_):=fun w1 g=>q2H w1 bb ob B K (by omega) hB2 (hb.G hbb g)
 rw[Int.natAbs_natCast] at fV Be
 have nY:Hid (∀ w0 w1 p,G w w1→NI w0 w1 p 0→_):=fun w0 w1 p g h=>q5i w1 p 0 ba oa 0 A K (by omega) hA2 h.2.1 (G.lt g iN) h.2.2 (ha.G iN g)
 have l9:Hid (∀ w0 w1 p,G w w1→NI w0 w1 p 0→_):=fun w0 w1 p g h=>q5i w1 p 0 bb ob 0 B K (by omega) hB2 h.2.1 (G.lt g hbb) h.2.2 (hb.G hbb g)
 have TJ:(m:Int)≤64:=by omega
 have TK:(blen A:Int)≤320000:=by omega
 have TL:(blen B:Int)≤320000:=by omega
 have lh:Hid (A≠0):=gJ
 have HB0:Hid (B≠0):=hB0
 have HA2:Hid _:=hA2
 have HB2:Hid _:=hB2
 by_cases hpl:(blen A:Int)-blen B-m<low
 case' pos=>
  obtain⟨p0,hp0⟩:∃ p0,p0=q1n A B m low:=⟨_,rfl⟩
  have Cn:Hid _:=hp0
  have nD:=hp0
  unfold q1n at nD
  rw[if_pos hpl] at nD
  rw[← hp0]
  have hp1: -(32*(K:Int))≤p0:=by omega
  have hp2:p0+1≤32*(K:Int):=by omega
  have tX:decide ((blen A:Int)-blen B-m<low)=true:=by simpa using hpl
  generalize blen A=LA at *
  generalize blen B=LB at *
  subst nD
  clear gJ hB0 hA2 hB2 hp0 ha hb hpl hla hlb
 case' neg=>
  obtain⟨p0,hp0⟩:∃ p0,p0=q1n A B m low:=⟨_,rfl⟩
  have Cn:Hid _:=hp0
  have nD:=hp0
  unfold q1n at nD
  rw[if_neg hpl] at nD
  rw[← hp0]
  have hp1: -(32*(K:Int))≤p0:=by omega
  have hp2:p0+1≤32*(K:Int):=by omega
  have tX:decide ((blen A:Int)-blen B-m<low)=false:=by simpa using hpl
  rw[← nD] at tX
  generalize blen A=LA at *
  generalize blen B=LB at *
  have hpe:(LA:Int)-LB-m=p0:=nD.symm
  clear gJ hB0 hA2 hB2 hp0 ha hb hpl hla hlb nD
 all_goals
  go_enter Tryz.func138,Tryz.ntmps138
  go_wp2_with fail
  refine Calls.mono (P:=Tryz.prog) (fV.out w (G.refl _)) ?_
  rintro e w1 ⟨rfl,hg1⟩
  go_wp2_with fail
  refine Calls.mono (P:=Tryz.prog) (Be.out w1 hg1) ?_
  rintro e w2 ⟨rfl,hg2⟩
  have hG2:=G.trans hg1 hg2
  go_wp2_with fail
  clear hg1 hg2 fV Be tX
  go_loopw [11] (fun vp wr=>∃ p:Int,vp= .int .i64 p∧q2j A B m p0 p∧p0≤p∧p≤p0+1∧G w wr) (fun vp _=>(p0+2-intOf vp).toNat)
  case atStart=>exact⟨p0,rfl,Or.inl rfl,Int.le_refl _,by omega,hG2⟩
  case round=>
   obtain⟨p,rfl,hat,OP,hpb,hG⟩:=hrel
   have HAT:Hid (q2j A B m p0 p):=hat
   have FE: -320000≤p:=by omega
   have hpi2:p≤320000:=by omega
   clear hat hG2
   as_aux_lemma=>
    go_wp2_with fail
    have hn0:=NI.new hG 38
    have cO:=G.trans hG ((G.refl wr).alloc (.cells #[.bool false,.slice none 0 0] 38))
    refine Calls.mono (P:=Tryz.prog) (nY.out w _ _ cO hn0) ?_
    intro e w3 hs
    obtain⟨rfl,hG3,gW,-,-⟩:=SetTo.step cO hn0 hs
    clear hs hn0 cO
    generalize wr.heap.size=pn at *
    clear hG
    go_wp2_with fail
    have hn0:=NI.new hG3 38
    have oP:=gW.G ((G.refl w3).alloc (.cells #[.bool false,.slice none 0 0] 38))
    have cO:=G.trans hG3 ((G.refl w3).alloc (.cells #[.bool false,.slice none 0 0] 38))
    have hne:w3.heap.size≠pn:=by have:=gW.2.1;omega
    refine Calls.mono (P:=Tryz.prog) (l9.out w _ _ cO hn0) ?_
    intro e w4 hs
    obtain⟨rfl,hG4,hD4,-,hkp⟩:=SetTo.step cO hn0 hs
    have fO:Hid (NI w w4 pn A):=hkp pn A hne.symm oP
    have HD4:Hid (NI w w4 w3.heap.size B):=hD4
    clear hs hn0 cO hkp oP gW hG3 hD4
    generalize w3.heap.size=pd at *
    have kL:Hid (upP A p<2^(32*(2*K))∧loP B p<2^(32*(2*K))∧loP B p≠0):=⟨qbL HA2.out (by omega),qbJ HB2.out (by omega),Nat.pos_iff_ne_zero.1 (q2V HB0.out)⟩
    by_cases nN:0≤p
    case' pos=>
     obtain⟨k,rfl⟩:∃ k:Nat,p=k:=Int.eq_ofNat_of_zero_le nN
     have HL:Hid (Calls Tryz.prog 68 #[.pointer (some ⟨pd,0,none⟩),.pointer (some ⟨pd,0,none⟩),.int .u64 (k:Int)] w4 (SetTo w4 pd 0 ((B:Int)*2^k))):=
      q1N w4 pd 0 pd 0 k B B K (by omega) (by omega) HB2.out HD4.out.2.1 HD4.out.2.1 HD4.out.2.2 HD4.out.2.2
     have hEq:(B:Int)*2^k=((loP B k:Nat):Int):=by unfold loP;push_cast;rfl
     have ve:(A:Int)=((upP A k:Nat):Int):=by unfold upP;rw[show (-(k:Int)).toNat=0 from by omega];simp
     rw[hEq] at HL
     have HE2:Hid _:=ve
     clear hEq ve
     go_wp2_with fail
     refine Calls.mono (P:=Tryz.prog) HL.out ?_
     intro e w5 hs
     obtain⟨rfl,bL,hD5,-,hkp⟩:=SetTo.step hG4 HD4.out hs
     have iF:=hkp pn A hne.symm fO.out
     rw[HE2.out] at iF
     have gX:Hid (NI w w5 pn (upP A (k:Int):Nat)):=iF
     have HD5:Hid (NI w w5 pd (loP B (k:Int):Nat)):=hD5
     clear hs hkp hD5 iF HE2 HL fO HD4 hG4
     obtain⟨p,hp⟩:∃ p:Int,p=(k:Int):=⟨_,rfl⟩
     rw[← hp] at gX HD5 nN OP hpb FE hpi2 kL HAT ⊢
     have Lj:Hid _:=hp
     clear hp nN
    case' neg=>
     obtain⟨k,hk⟩:∃ k:Nat,p= -(k:Int):=⟨(-p).toNat,by omega⟩
     have Ll:decide (0≤p)=false:=by simpa using nN
     subst hk
     have HL:Hid (Calls Tryz.prog 68 #[.pointer (some ⟨pn,0,none⟩),.pointer (some ⟨pn,0,none⟩),.int .u64 (k:Int)] w4 (SetTo w4 pn 0 ((A:Int)*2^k))):=
      q1N w4 pn 0 pn 0 k A A K (by omega) (by omega) HA2.out fO.out.2.1 fO.out.2.1 fO.out.2.2 fO.out.2.2
     have hEq:(A:Int)*2^k=((upP A (-(k:Int)):Nat):Int):=by unfold upP;rw[show (-(-(k:Int))).toNat=k from by omega];push_cast;rfl
     have ve:(B:Int)=((loP B (-(k:Int)):Nat):Int):=by unfold loP;rw[show (-(k:Int)).toNat=0 from by omega];simp
     rw[hEq] at HL
     have HE2:Hid _:=ve
     clear hEq ve
     go_wp2_with fail
     refine Calls.mono (P:=Tryz.prog) HL.out ?_
     intro e w5 hs
     obtain⟨rfl,bL,iF,-,hkp⟩:=SetTo.step hG4 fO.out hs
     have hD5:=hkp pd B hne HD4.out
     rw[HE2.out] at hD5
     have gX:Hid (NI w w5 pn (upP A (-(k:Int)):Nat)):=iF
     have HD5:Hid (NI w w5 pd (loP B (-(k:Int)):Nat)):=hD5
     clear hs hkp hD5 iF HE2 HL fO HD4 hG4 Ll
     obtain⟨p,hp⟩:∃ p:Int,p= -(k:Int):=⟨_,rfl⟩
     rw[← hp] at gX HD5 nN OP hpb FE hpi2 kL HAT ⊢
     have Lj:Hid _:=hp
     clear hp nN
    all_goals
     as_aux_lemma=>
      obtain⟨N,hN⟩:∃ N,N=upP A p:=⟨_,rfl⟩
      obtain⟨D,hD⟩:∃ D,D=loP B p:=⟨_,rfl⟩
      rw[← hN] at gX kL
      rw[← hD] at HD5 kL
      have HQ:Hid (q1D A B p=q0v N D):=by show q1D A B p=q0v N D;rw[hN,hD];rfl
      have HX:Hid (decide (upP A p%loP B p=0)=decide (N%D=0)):=by rw[hN,hD];exact rfl
      clear hN hD nY l9
      go_wp2_with fail
      have ha1:=(G.refl w5).alloc (.cells #[.bool false,.slice none 0 0] 38)
      have ha2:=ha1.alloc (.cells #[.bool false,.slice none 0 0] 38)
      have hq0:=(NI.new (G.trans bL (G.refl w5)) 38).G ((G.refl (w5.alloc (.cells #[.bool false,.slice none 0 0] 38))).alloc (.cells #[.bool false,.slice none 0 0] 38))
      have hr0:=NI.new (G.trans bL ha1) 38
      rw[show (w5.alloc (.cells #[.bool false,.slice none 0 0] 38)).heap.size=w5.heap.size+1 from by simp] at hr0
      have Lm:=gX.out.G ha2
      have hD6:=HD5.out.G ha2
      have hpn:=gX.out.2.1
      have tX:=HD5.out.2.1
      have rC:=G.trans bL ha2
      obtain⟨pr,hpr⟩:∃ pr,pr=w5.heap.size+1:=⟨_,rfl⟩
      rw[← hpr] at hr0 ⊢
      generalize hpq:w5.heap.size=pq at *
      generalize (w5.alloc (.cells #[.bool false,.slice none 0 0] 38)).alloc (.cells #[.bool false,.slice none 0 0] 38)=w6 at *
      have Lp:pr≠pq:=by omega
      have hnq:pn≠pq:=by omega
      have OQ:pd≠pq:=by omega
      have hnr:pn≠pr:=by omega
      have hdr:pd≠pr:=by omega
      refine Calls.mono (P:=Tryz.prog) (q6n w6 pq 0 pn 0 pd 0 pr 0 0 0 N D (2*K) (by omega) kL.out.1 kL.out.2.1 (by have:=kL.out.2.2;omega) hq0.2.1 hr0.2.1 Lm.2.1 hD6.2.1 hq0.2.2 hr0.2.2 (Or.inl Lp) Lm.2.2 hD6.2.2) ?_
      intro e w8 Lr
      obtain⟨rfl,w7,e1,e2,hs7,OT⟩:=Lr
      obtain⟨-,FH,OU,-,Ls⟩:=SetTo.step rC hq0 hs7
      have OV:=Ls pr 0 Lp hr0
      have hD7:=Ls pd D OQ hD6
      obtain⟨-,xu,Lt,-,Lu⟩:=SetTo.step FH OV OT
      have Lv:=Lu pq _ Lp.symm OU
      have OW:=Lu pd _ hdr hD7
      rw[show Int.tdiv (N:Int) D=((N/D:Nat):Int) from rfl] at Lv
      rw[show Int.tmod (N:Int) D=((N%D:Nat):Int) from rfl] at Lt
      have mi:Hid (NI w w8 pq ((N/D:Nat):Int)):=Lv
      have Lx:Hid (NI w w8 pr ((N%D:Nat):Int)):=Lt
      have bJ:Hid (NI w w8 pd (D:Int)):=OW
      clear hs7 OT Ls Lu OU OV hD7 Lv Lt OW FH hq0 hr0 Lm hD6 ha1 ha2 rC gX HD5 bL hpq hpr hpn tX hnq hnr OQ
      go_wp2_with fail
      have bn:Hid _:=q76 w8 pr 0 _ Lx.out.2.2
      have LC:Hid ((((N%D:Nat):Int).sign==0)=decide (N%D=0)):=by
       show (((N%D:Nat):Int).sign==0)=decide (N%D=0)
       generalize N%D=z
       by_cases hz:z=0
       ·subst hz;rfl
       ·have:(z:Int).sign=1:=Int.sign_eq_one_of_pos (by omega)
        rw[this];simp [hz]
      obtain⟨sgn,FI⟩:∃ sgn,sgn=((N%D:Nat):Int).sign:=⟨_,rfl⟩
      rw[← FI] at bn LC
      clear FI
      have hmd:N%D≤N:=Nat.mod_le _ _
      have FJ:N%D*2<2^(32*(2*K+1)):=by
       have h1:=kL.out.1
       have h2:2^(32*(2*K))*2≤2^(32*(2*K+1)):=by rw[← Nat.pow_succ];exact Nat.pow_le_pow_right (by omega) (by omega)
       omega
      have hD2:D<2^(32*(2*K+1)):=Nat.lt_of_lt_of_le kL.out.2.1 (Nat.pow_le_pow_right (by omega) (by omega))
      have FK:Hid (N%D*2<2^(32*(2*K+1))):=FJ
      have qJ:Hid (N%D<2^(32*(2*K))):=Nat.lt_of_le_of_lt hmd kL.out.1
      have rW:Hid (D<2^(32*(2*K+1))):=hD2
      clear hmd FJ hD2
      refine Calls.mono (P:=Tryz.prog) bn.out ?_
      rintro e w9 ⟨rfl,nZ⟩
      have LD:=G.trans xu nZ
      have nE:Hid (NI w w9 pq ((N/D:Nat):Int)):=mi.out.G nZ
      have LF:Hid (NI w w9 pr ((N%D:Nat):Int)):=Lx.out.G nZ
      have bQ:Hid (NI w w9 pd (D:Int)):=bJ.out.G nZ
      clear nZ mi Lx bJ bn xu
      go_wp2_with fail
      have hc0:=NI.new LD 38
      have ha1:=(G.refl w9).alloc (.cells #[.bool false,.slice none 0 0] 38)
      have Bt:=LF.out.G ha1
      have FL:=nE.out.G ha1
      have FM:=bQ.out.G ha1
      have cO:=G.trans LD ha1
      have hcq:pq≠w9.heap.size:=by have:=nE.out.2.1;omega
      have hcr:pr≠w9.heap.size:=by have:=LF.out.2.1;omega
      have hcd:pd≠w9.heap.size:=by have:=bQ.out.2.1;omega
      generalize w9.heap.size=pc at *
      refine Calls.mono (P:=Tryz.prog) (q1N _ pc 0 pr 0 1 0 _ (2*K) (by omega) (by omega) (by rw[Int.natAbs_natCast];exact qJ.out) hc0.2.1 Bt.2.1 hc0.2.2 Bt.2.2) ?_
      intro e bE hs
      obtain⟨rfl,FN,xE,-,hk10⟩:=SetTo.step cO hc0 hs
      have FO:=hk10 pq _ hcq FL
      have Bu:=hk10 pd _ hcd FM
      rw[show ((N%D:Nat):Int)*2^1=((N%D*2:Nat):Int) from by push_cast;rfl] at xE
      have cB:Hid _:=q4L bE pc 0 pd 0 _ _ (2*K+1) (by omega) (by rw[Int.natAbs_natCast];exact FK.out) (by rw[Int.natAbs_natCast];exact rW.out) xE.2.1 Bu.2.1 xE.2.2 Bu.2.2
      have jR:Hid (NI w bE pq ((N/D:Nat):Int)):=FO
      clear hs hk10 FO Bu xE FL FM Bt cO ha1 hc0 nE LF bQ LD
      go_wp2_with fail
      refine Calls.mono (P:=Tryz.prog) cB.out ?_
      rintro e eB ⟨rfl,Bv⟩
      have rX:=G.trans FN Bv
      have iR:Hid (NI w eB pq ((N/D:Nat):Int)):=jR.out.G Bv
      clear Bv jR cB FN qJ FK rW
      have qI:Hid (q0v N D=N/D+(if 0<cmpI ((N%D*2:Nat):Int) (D:Int)∨(cmpI ((N%D*2:Nat):Int) (D:Int)=0∧N/D%2=1) then 1 else 0)):=q7w
      have hcv:cmpI ((N%D*2:Nat):Int) (D:Int)=1∨cmpI ((N%D*2:Nat):Int) (D:Int)=0∨cmpI ((N%D*2:Nat):Int) (D:Int)= -1:=by unfold cmpI;split<;>(try split)<;>simp
      have FP:N/D<2^(32*(2*K)):=Nat.lt_of_le_of_lt (Nat.div_le_self _ _) kL.out.1
      have vo:Hid (N/D<2^(32*(2*K))):=FP
      generalize cmpI ((N%D*2:Nat):Int) (D:Int)=cv at *
      generalize N/D=Q0 at *
      clear FP
      rcases hcv with rfl|rfl|rfl
      case' inl=>
       rw[if_pos (by omega)] at qI
       go_wp2_with fail
       refine Calls.mono (P:=Tryz.prog) (q1q eB 1 (by omega)) ?_
       intro e mr hni
       obtain⟨p1,rfl,qB,Bw,vv,vw⟩:=hni
       have vB:=G.trans rX qB
       have jH:=iR.out.G qB
       have hne:p1≠pq:=by have:=iR.out.2.1;omega
       have hq1:Q0<2^(32*(2*K+1)):=Nat.lt_of_lt_of_le vo.out (Nat.pow_le_pow_right (by omega) (by omega))
       have FU:1<2^(32*(2*K+1)):=Nat.one_lt_two_pow (by omega)
       have HAD:Hid _:=q7h mr pq 0 pq 0 p1 0 Q0 Q0 1 (2*K+1) (by omega) hq1 FU jH.2.1 jH.2.1 vv jH.2.2 jH.2.2 vw
       have vC:Hid (NI w mr pq (Q0:Int)):=jH
       clear qB iR jH hq1 FU Bw vv vw rX
       go_wp2_with fail
       refine Calls.mono (P:=Tryz.prog) HAD.out ?_
       intro e vS hs
       obtain⟨rfl,vD,qC,-,-⟩:=SetTo.step vB vC.out hs
       rw[show (Q0:Int)+1=((Q0+1:Nat):Int) from by omega,← qI.out] at qC
       have qD:Hid (NI w vS pq ((q0v N D:Nat):Int)):=qC
       clear hs qC HAD vC vB hne
       go_wp2_with fail
      case' inr.inl=>
       obtain⟨z,hz,hz1⟩:∃ z:Nat,Q0/2^0%2=z∧z≤1:=⟨_,rfl,by omega⟩
       have LG:Hid _:=qbY eB pq 0 0 Q0 (2*K) (by omega) (by omega) vo.out (by omega) iR.out.2.2
       rw[Int.natAbs_natCast,hz] at LG
       rw[Nat.pow_zero,Nat.div_one] at hz
       rw[hz] at qI
       clear hz
       go_wp2_with fail
       refine Calls.mono (P:=Tryz.prog) LG.out ?_
       rintro e gV ⟨rfl,Bz⟩
       have xG:=G.trans rX Bz
       have oF:Hid (NI w gV pq (Q0:Int)):=iR.out.G Bz
       clear Bz iR rX LG
       by_cases hz0:z=1
       case' pos=>
        subst hz0
        rw[if_pos (by simp)] at qI
        go_wp2_with fail
        refine Calls.mono (P:=Tryz.prog) (q1q gV 1 (by omega)) ?_
        intro e mr hni
        obtain⟨p1,rfl,qB,Bw,vv,vw⟩:=hni
        have vB:=G.trans xG qB
        have jH:=oF.out.G qB
        have hne:p1≠pq:=by have:=oF.out.2.1;omega
        have hq1:Q0<2^(32*(2*K+1)):=Nat.lt_of_lt_of_le vo.out (Nat.pow_le_pow_right (by omega) (by omega))
        have FU:1<2^(32*(2*K+1)):=Nat.one_lt_two_pow (by omega)
        have HAD:Hid _:=q7h mr pq 0 pq 0 p1 0 Q0 Q0 1 (2*K+1) (by omega) hq1 FU jH.2.1 jH.2.1 vv jH.2.2 jH.2.2 vw
        have vC:Hid (NI w mr pq (Q0:Int)):=jH
        clear qB oF jH hq1 FU Bw vv vw xG
        go_wp2_with fail
        refine Calls.mono (P:=Tryz.prog) HAD.out ?_
        intro e vS hs
        obtain⟨rfl,vD,qC,-,-⟩:=SetTo.step vB vC.out hs
        rw[show (Q0:Int)+1=((Q0+1:Nat):Int) from by omega,← qI.out] at qC
        have qD:Hid (NI w vS pq ((q0v N D:Nat):Int)):=qC
        clear hs qC HAD vC vB hne
        go_wp2_with fail
       case' neg=>
        obtain rfl:z=0:=by omega
        rw[if_neg (by simp)] at qI
        go_wp2_with fail
        have qD:Hid (NI w gV pq ((q0v N D:Nat):Int)):=by rw[qI.out,Nat.add_zero];exact oF.out
        have vD:=xG
        clear oF xG
      case' inr.inr=>
       rw[if_neg (by omega)] at qI
       have qD:Hid (NI w eB pq ((q0v N D:Nat):Int)):=by rw[qI.out,Nat.add_zero];exact iR.out
       have vD:=rX
       clear iR rX
       go_wp2_with fail
      all_goals as_aux_lemma=>
       have yR:q0v N D<2^(32*(2*K+1)):=by
        have h1:=qI.out
        have h2:=vo.out
        have h3:2^(32*(2*K))*2≤2^(32*(2*K+1)):=by rw[← Nat.pow_succ];exact Nat.pow_le_pow_right (by omega) (by omega)
        omega
       have BA:=blen_le_iff.2 yR
       obtain⟨Q,hQ⟩:∃ Q,Q=q0v N D:=⟨_,rfl⟩
       rw[← hQ] at HQ qD yR BA
       have EF:Hid _:=q2H _ pq 0 Q (2*K+1) (by omega) (by rw[Int.natAbs_natCast];exact yR) qD.out.2.2
       rw[Int.natAbs_natCast] at EF
       have LH:Hid (Q<2^(32*(2*K+1))):=yR
       obtain⟨LQ,LJ⟩:∃ LQ,LQ=blen Q:=⟨_,rfl⟩
       rw[← LJ] at EF BA
       have BB:Hid (LQ=blen Q):=LJ
       have TM:(LQ:Int)≤700000:=by omega
       clear hQ yR LJ BA qI vo
       refine Calls.mono (P:=Tryz.prog) EF.out ?_
       rintro e lX ⟨rfl,BC⟩
       have BD:=G.trans vD BC
       have mD:Hid (NI w lX pq (Q:Int)):=qD.out.G BC
       clear BC qD vD EF
       by_cases hb1:LQ≤m
       ·have LK:decide (LQ≤m)=true:=by simpa using hb1
        have HB1:Hid (LQ≤m):=hb1
        clear hb1
        go_wp2_with fail
        go_ret3
        exact⟨pq,Q,p,p,sgn==0,rfl,BD,mD.out,⟨Or.inl ⟨by rw[HQ.out,← BB.out];exact HB1.out,HQ.out.symm,rfl⟩,by rw[HX.out];exact LC.out⟩,HAT.out⟩
       ·have LK:decide (LQ≤m)=false:=by simpa using hb1
        have HB1:Hid (¬ LQ≤m):=hb1
        have BF:Hid _:=q2H _ pq 0 Q (2*K+1) (by omega) (by rw[Int.natAbs_natCast];exact LH.out) mD.out.2.2
        rw[Int.natAbs_natCast,← BB.out] at BF
        have iO:Q≠0:=by
         intro h0
         have:=BB.out
         rw[h0] at this
         have h2:blen 0=0:=rfl
         omega
        have TN:Hid (Q≠0):=iO
        clear hb1 iO
        go_wp2_with fail
        refine Calls.mono (P:=Tryz.prog) BF.out ?_
        rintro e w16 ⟨rfl,BG⟩
        have BH:=G.trans BD BG
        have xH:Hid (NI w w16 pq (Q:Int)):=mD.out.G BG
        clear BG mD BD BF
        have hnext:¬ q5L m Q→q2j A B m p0 (p+1)∧p=p0:=fun hs=>by
         rw[← HQ.out] at hs
         obtain⟨h1,h2⟩:=q7e lh.out HB0.out Cn.out HAT.out hs
         exact⟨h2,h1⟩
        have qX:Hid (¬ q5L m Q→q2j A B m p0 (p+1)∧p=p0):=hnext
        clear hnext
        by_cases hb2:LQ=m+1
        ·have LM:((LQ:Int)==(m:Int)+1)=true:=by simp;omega
         have pW:Hid (LQ=m+1):=hb2
         have OX:Hid (Calls Tryz.prog 201 #[.pointer (some ⟨pq,0,none⟩)] w16 (qbQ w16 Q)):=qcf w16 pq 0 Q (2*K+1) (by omega) (by rw[Int.natAbs_natCast];exact LH.out) (by rw[Int.natAbs_natCast];exact TN.out) xH.out.2.1 xH.out.2.2
         have UR:IntKind.u64.wrap (m:Int)=m:=by rw[IntKind.wrap_u64];omega
         clear hb2
         go_wp2_with fail
         refine Calls.mono (P:=Tryz.prog) OX.out ?_
         intro e wR htz
         obtain⟨k,rfl,hk,BI⟩:=htz
         have BJ:=G.trans BH BI
         have vE:Hid (NI w wR pq (Q:Int)):=xH.out.G BI
         have Ho:Hid (q20 Q k):=hk
         clear BI xH BH OX hk
         by_cases FV:m≤k
         ·have LP:decide (m≤k)=true:=by simpa using FV
          have OY:Q%2^m=0:=by
           obtain⟨h1,-⟩:=Ho.out
           exact Nat.mod_eq_zero_of_dvd (Nat.dvd_trans (Nat.pow_dvd_pow 2 FV) (Nat.dvd_of_mod_eq_zero h1))
          have TP:Hid (Q%2^m=0):=OY
          have CV:Hid (Calls Tryz.prog 202 #[.pointer (some ⟨pq,0,none⟩),.pointer (some ⟨pq,0,none⟩),.int .u64 ((1:Nat):Int)] wR (SetTo wR pq 0 ((Q/2^1:Nat):Int))):=
           qbT wR pq 0 pq 0 1 Q Q (2*K+1) (by omega) (by omega) (by rw[Int.natAbs_natCast];exact LH.out) (by omega) vE.out.2.1 vE.out.2.2 vE.out.2.2
          clear FV OY
          go_wp2_with fail
          refine Calls.mono (P:=Tryz.prog) CV.out ?_
          intro e TQ hs
          obtain⟨rfl,LU,FW,-,-⟩:=SetTo.step BJ vE.out hs
          have LV:Hid (NI w TQ pq ((Q/2^1:Nat):Int)):=FW
          clear hs FW vE BJ CV
          go_wp2_with fail
          go_ret3
          exact⟨pq,Q/2^1,p+1,p,sgn==0,rfl,LU,LV.out,⟨Or.inr ⟨by rw[HQ.out,← BB.out];exact pW.out,by rw[HQ.out];exact TP.out,by rw[HQ.out,Nat.pow_one],rfl⟩,by rw[HX.out];exact LC.out⟩,HAT.out⟩
         ·have LP:decide (m≤k)=false:=by simpa using FV
          have hns:¬ q5L m Q:=by
           rintro(h|⟨-,h⟩)
           ·exact HB1.out (by rw[BB.out];exact h)
           ·obtain⟨h1,h2⟩:=Ho.out
            have h3:2^(k+1)∣Q:=Nat.dvd_trans (Nat.pow_dvd_pow 2 (by omega)) (Nat.dvd_of_mod_eq_zero h)
            have h4:Q%2^(k+1)=0:=Nat.mod_eq_zero_of_dvd h3
            rw[Nat.pow_succ,Nat.mod_mul,h1,h2] at h4
            have:=Nat.two_pow_pos k
            omega
          obtain⟨vF,BL⟩:=qX.out hns
          have BM:Hid (q2j A B m p0 (p+1)):=vF
          have hle1:p0≤p+1:=by omega
          have hle2:p+1≤p0+1:=by omega
          have LY:Hid ((p0+2-(p+1)).toNat<(p0+2-p).toNat):=by show (p0+2-(p+1)).toNat<(p0+2-p).toNat;omega
          clear hns vF FV BL
          go_wp2_with fail
          go_roundw
          case rel=>exact⟨p+1,by go_num,BM.out,hle1,hle2,BJ⟩
          case measure=>have h1:=Lj.out;have h2:(p0+2-(p+1)).toNat<(p0+2-p).toNat:=LY.out;simp only[intOf];omega
        ·have LM:((LQ:Int)==(m:Int)+1)=false:=by simp;omega
         have hns:¬ q5L m Q:=by
          rintro(h|⟨h,-⟩)
          ·exact HB1.out (by rw[BB.out];exact h)
          ·exact hb2 (by rw[BB.out];exact h)
         obtain⟨vF,BL⟩:=qX.out hns
         have BM:Hid (q2j A B m p0 (p+1)):=vF
         have hle1:p0≤p+1:=by omega
         have hle2:p+1≤p0+1:=by omega
         have LY:Hid ((p0+2-(p+1)).toNat<(p0+2-p).toNat):=by show (p0+2-(p+1)).toNat<(p0+2-p).toNat;omega
         clear hns vF hb2 BL
         go_wp2_with fail
         go_roundw
         case rel=>exact⟨p+1,by go_num,BM.out,hle1,hle2,BH⟩
         case measure=>have h1:=Lj.out;have h2:(p0+2-(p+1)).toNat<(p0+2-p).toNat:=LY.out;simp only[intOf];omega
end Go.Proofs.YtemmkninoiclfaaGreatDoor
