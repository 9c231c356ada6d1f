/- What is proved here: contracts of the reference's big numbers: near, over this seat's translation. -/
import Derived.Test.YtljkfjjchkehaaaGreatDoorP18
import Derived.OwnWalk
namespace Go.Proofs.YtljkfjjchkehaaaGreatDoor
open Go.ChangeShapes Go.WideShapes Go.ChangeAt Go.RowKit
open BN
def qaU (w:World) (A B m:Nat) (p0:Int) (e:Ending) (w':World):Prop:=
 ∃ (q v:Nat) (P p:Int) (x:Bool),e= .returned (.tuple #[.pointer (some ⟨q,0,none⟩),.int .i64 P,.bool x])∧G w w'∧NI w w' q (v:Int)∧q5I A B m p v P x∧q29 A B m p0 p
set_option maxRecDepth 10000 in
set_option maxHeartbeats 4000000 in
theorem qbp (w:World) (ba oa bb ob A B m K:Nat) (low:Int) (hK:K≤10000) (hK1:100≤K) (iU:A≠0) (hB0:B≠0) (hA2:A<2^(32*K)) (hB2:B<2^(32*K)) (hm1:1≤m) (hm:m≤64) (hlow: -2000≤low) (Ot:low≤2000)
  (jO:ba<w.heap.size) (hbb:bb<w.heap.size) (ha:IntIs w ba oa (A:Int)) (hb:IntIs w bb ob (B:Int)):
  Calls Tryz.prog 84 #[.pointer (some ⟨ba,oa,none⟩),.pointer (some ⟨bb,ob,none⟩),.int .i64 (m:Int),.int .i64 low] w (qaU w A B m (q1k A B m low)):=by
 have hla:=blen_le_iff.2 hA2
 have hlb:=blen_le_iff.2 hB2
 have Cz:Hid (∀ w1,G w w1→_):=fun w1 g=>q2A w1 ba oa A K (by omega) hA2 (ha.G jO g)
 have Ah:Hid (∀ w1,G w w1→_):=fun w1 g=>q2A w1 bb ob B K (by omega) hB2 (hb.G hbb g)
 rw[Int.natAbs_natCast] at Cz Ah
 have sD:Hid (∀ w0 w1 p,G w w1→NI w0 w1 p 0→_):=fun w0 w1 p g h=>q6A w1 p 0 ba oa 0 A K (by omega) hA2 h.2.1 (G.lt g jO) h.2.2 (ha.G jO g)
 have o9:Hid (∀ w0 w1 p,G w w1→NI w0 w1 p 0→_):=fun w0 w1 p g h=>q6A w1 p 0 bb ob 0 B K (by omega) hB2 h.2.1 (G.lt g hbb) h.2.2 (hb.G hbb g)
 have Ry:(m:Int)≤64:=by omega
 have Rz:(blen A:Int)≤320000:=by omega
 have RD:(blen B:Int)≤320000:=by omega
 have ng:Hid (A≠0):=iU
 have HB0:Hid (B≠0):=hB0
 have HA2:Hid _:=hA2
 have HB2:Hid _:=hB2
 by_cases hpl:(blen A:Int)-blen B-m<low
 case' pos=>
  obtain⟨p0,hp0⟩:∃ p0,p0=q1k A B m low:=⟨_,rfl⟩
  have CP:Hid _:=hp0
  have oI:=hp0
  unfold q1k at oI
  rw[if_pos hpl] at oI
  rw[← hp0]
  have hp1: -(32*(K:Int))≤p0:=by omega
  have hp2:p0+1≤32*(K:Int):=by omega
  have vI:decide ((blen A:Int)-blen B-m<low)=true:=by simpa using hpl
  generalize blen A=LA at *
  generalize blen B=LB at *
  subst oI
  clear iU hB0 hA2 hB2 hp0 ha hb hpl hla hlb
 case' neg=>
  obtain⟨p0,hp0⟩:∃ p0,p0=q1k A B m low:=⟨_,rfl⟩
  have CP:Hid _:=hp0
  have oI:=hp0
  unfold q1k at oI
  rw[if_neg hpl] at oI
  rw[← hp0]
  have hp1: -(32*(K:Int))≤p0:=by omega
  have hp2:p0+1≤32*(K:Int):=by omega
  have vI:decide ((blen A:Int)-blen B-m<low)=false:=by simpa using hpl
  rw[← oI] at vI
  generalize blen A=LA at *
  generalize blen B=LB at *
  have hpe:(LA:Int)-LB-m=p0:=oI.symm
  clear iU hB0 hA2 hB2 hp0 ha hb hpl hla hlb oI
 all_goals
  go_enter Tryz.func84,Tryz.ntmps84
  go_wp2_with fail
  refine Calls.mono (P:=Tryz.prog) (Cz.out w (G.refl _)) ?_
  rintro e w1 ⟨rfl,hg1⟩
  go_wp2_with fail
  refine Calls.mono (P:=Tryz.prog) (Ah.out w1 hg1) ?_
  rintro e w2 ⟨rfl,hg2⟩
  have hG2:=G.trans hg1 hg2
  go_wp2_with fail
  clear hg1 hg2 Cz Ah vI
  go_loopw [11] (fun vp wr=>∃ p:Int,vp= .int .i64 p∧q29 A B m p0 p∧p0≤p∧p≤p0+1∧G w wr) (fun vp _=>(p0+2-intOf vp).toNat)
  case atStart=>exact⟨p0,rfl,Or.inl rfl,Int.le_refl _,by omega,hG2⟩
  case round=>
   obtain⟨p,rfl,hat,Ou,hpb,hG⟩:=hrel
   have HAT:Hid (q29 A B m p0 p):=hat
   have Fe: -320000≤p:=by omega
   have hpi2:p≤320000:=by omega
   clear hat hG2
   as_aux_lemma=>
    go_wp2_with fail
    have hn0:=NI.new hG 38
    have fM:=G.trans hG ((G.refl wr).alloc (.cells #[.bool false,.slice none 0 0] 38))
    refine Calls.mono (P:=Tryz.prog) (sD.out w _ _ fM hn0) ?_
    intro e w3 hs
    obtain⟨rfl,hG3,l5,-,-⟩:=SetTo.step fM hn0 hs
    clear hs hn0 fM
    generalize wr.heap.size=pn at *
    clear hG
    go_wp2_with fail
    have hn0:=NI.new hG3 38
    have uK:=l5.G ((G.refl w3).alloc (.cells #[.bool false,.slice none 0 0] 38))
    have fM:=G.trans hG3 ((G.refl w3).alloc (.cells #[.bool false,.slice none 0 0] 38))
    have hne:w3.heap.size≠pn:=by have:=l5.2.1;omega
    refine Calls.mono (P:=Tryz.prog) (o9.out w _ _ fM hn0) ?_
    intro e w4 hs
    obtain⟨rfl,hG4,hD4,-,hkp⟩:=SetTo.step fM hn0 hs
    have jG:Hid (NI w w4 pn A):=hkp pn A hne.symm uK
    have HD4:Hid (NI w w4 w3.heap.size B):=hD4
    clear hs hn0 fM hkp uK l5 hG3 hD4
    generalize w3.heap.size=pd at *
    have mh:Hid (upP A p<2^(32*(2*K))∧loP B p<2^(32*(2*K))∧loP B p≠0):=⟨qcc HA2.out (by omega),qbG HB2.out (by omega),Nat.pos_iff_ne_zero.1 (q2J HB0.out)⟩
    by_cases CQ:0≤p
    case' pos=>
     obtain⟨k,rfl⟩:∃ k:Nat,p=k:=Int.eq_ofNat_of_zero_le CQ
     have HL:Hid (Calls Tryz.prog 113 #[.pointer (some ⟨pd,0,none⟩),.pointer (some ⟨pd,0,none⟩),.int .u64 (k:Int)] w4 (SetTo w4 pd 0 ((B:Int)*2^k))):=
      q2u w4 pd 0 pd 0 k B B K (by omega) (by omega) HB2.out HD4.out.2.1 HD4.out.2.1 HD4.out.2.2 HD4.out.2.2
     have hEq:(B:Int)*2^k=((loP B k:Nat):Int):=by unfold loP;push_cast;rfl
     have vZ:(A:Int)=((upP A k:Nat):Int):=by unfold upP;rw[show (-(k:Int)).toNat=0 from by omega];simp
     rw[hEq] at HL
     have HE2:Hid _:=vZ
     clear hEq vZ
     go_wp2_with fail
     refine Calls.mono (P:=Tryz.prog) HL.out ?_
     intro e w5 hs
     obtain⟨rfl,iK,hD5,-,hkp⟩:=SetTo.step hG4 HD4.out hs
     have kG:=hkp pn A hne.symm jG.out
     rw[HE2.out] at kG
     have jJ:Hid (NI w w5 pn (upP A (k:Int):Nat)):=kG
     have HD5:Hid (NI w w5 pd (loP B (k:Int):Nat)):=hD5
     clear hs hkp hD5 kG HE2 HL jG HD4 hG4
     obtain⟨p,hp⟩:∃ p:Int,p=(k:Int):=⟨_,rfl⟩
     rw[← hp] at jJ HD5 CQ Ou hpb Fe hpi2 mh HAT ⊢
     have LJ:Hid _:=hp
     clear hp CQ
    case' neg=>
     obtain⟨k,hk⟩:∃ k:Nat,p= -(k:Int):=⟨(-p).toNat,by omega⟩
     have LK:decide (0≤p)=false:=by simpa using CQ
     subst hk
     have HL:Hid (Calls Tryz.prog 113 #[.pointer (some ⟨pn,0,none⟩),.pointer (some ⟨pn,0,none⟩),.int .u64 (k:Int)] w4 (SetTo w4 pn 0 ((A:Int)*2^k))):=
      q2u w4 pn 0 pn 0 k A A K (by omega) (by omega) HA2.out jG.out.2.1 jG.out.2.1 jG.out.2.2 jG.out.2.2
     have hEq:(A:Int)*2^k=((upP A (-(k:Int)):Nat):Int):=by unfold upP;rw[show (-(-(k:Int))).toNat=k from by omega];push_cast;rfl
     have vZ:(B:Int)=((loP B (-(k:Int)):Nat):Int):=by unfold loP;rw[show (-(k:Int)).toNat=0 from by omega];simp
     rw[hEq] at HL
     have HE2:Hid _:=vZ
     clear hEq vZ
     go_wp2_with fail
     refine Calls.mono (P:=Tryz.prog) HL.out ?_
     intro e w5 hs
     obtain⟨rfl,iK,kG,-,hkp⟩:=SetTo.step hG4 jG.out hs
     have hD5:=hkp pd B hne HD4.out
     rw[HE2.out] at hD5
     have jJ:Hid (NI w w5 pn (upP A (-(k:Int)):Nat)):=kG
     have HD5:Hid (NI w w5 pd (loP B (-(k:Int)):Nat)):=hD5
     clear hs hkp hD5 kG HE2 HL jG HD4 hG4 LK
     obtain⟨p,hp⟩:∃ p:Int,p= -(k:Int):=⟨_,rfl⟩
     rw[← hp] at jJ HD5 CQ Ou hpb Fe hpi2 mh HAT ⊢
     have LJ:Hid _:=hp
     clear hp CQ
    all_goals
     as_aux_lemma=>
      obtain⟨N,hN⟩:∃ N,N=upP A p:=⟨_,rfl⟩
      obtain⟨D,hD⟩:∃ D,D=loP B p:=⟨_,rfl⟩
      rw[← hN] at jJ mh
      rw[← hD] at HD5 mh
      have HQ:Hid (q1w A B p=q0v N D):=by show q1w A B p=q0v N D;rw[hN,hD];rfl
      have HX:Hid (decide (upP A p%loP B p=0)=decide (N%D=0)):=by rw[hN,hD];exact rfl
      clear hN hD sD o9
      go_wp2_with fail
      have ha1:=(G.refl w5).alloc (.cells #[.bool false,.slice none 0 0] 38)
      have ha2:=ha1.alloc (.cells #[.bool false,.slice none 0 0] 38)
      have hq0:=(NI.new (G.trans iK (G.refl w5)) 38).G ((G.refl (w5.alloc (.cells #[.bool false,.slice none 0 0] 38))).alloc (.cells #[.bool false,.slice none 0 0] 38))
      have hr0:=NI.new (G.trans iK ha1) 38
      rw[show (w5.alloc (.cells #[.bool false,.slice none 0 0] 38)).heap.size=w5.heap.size+1 from by simp] at hr0
      have LM:=jJ.out.G ha2
      have hD6:=HD5.out.G ha2
      have hpn:=jJ.out.2.1
      have vI:=HD5.out.2.1
      have xg:=G.trans iK ha2
      obtain⟨pr,hpr⟩:∃ pr,pr=w5.heap.size+1:=⟨_,rfl⟩
      rw[← hpr] at hr0 ⊢
      generalize hpq:w5.heap.size=pq at *
      generalize (w5.alloc (.cells #[.bool false,.slice none 0 0] 38)).alloc (.cells #[.bool false,.slice none 0 0] 38)=w6 at *
      have LP:pr≠pq:=by omega
      have hnq:pn≠pq:=by omega
      have Ov:pd≠pq:=by omega
      have hnr:pn≠pr:=by omega
      have hdr:pd≠pr:=by omega
      refine Calls.mono (P:=Tryz.prog) (q99 w6 pq 0 pn 0 pd 0 pr 0 0 0 N D (2*K) (by omega) mh.out.1 mh.out.2.1 (by have:=mh.out.2.2;omega) hq0.2.1 hr0.2.1 LM.2.1 hD6.2.1 hq0.2.2 hr0.2.2 (Or.inl LP) LM.2.2 hD6.2.2) ?_
      intro e w8 LU
      obtain⟨rfl,w7,e1,e2,hs7,Ow⟩:=LU
      obtain⟨-,Ff,Ox,-,LV⟩:=SetTo.step xg hq0 hs7
      have Oy:=LV pr 0 LP hr0
      have hD7:=LV pd D Ov hD6
      obtain⟨-,xO,LY,-,LZ⟩:=SetTo.step Ff Oy Ow
      have M0:=LZ pq _ LP.symm Ox
      have Oz:=LZ pd _ hdr hD7
      rw[show Int.tdiv (N:Int) D=((N/D:Nat):Int) from rfl] at M0
      rw[show Int.tmod (N:Int) D=((N%D:Nat):Int) from rfl] at LY
      have nX:Hid (NI w w8 pq ((N/D:Nat):Int)):=M0
      have M3:Hid (NI w w8 pr ((N%D:Nat):Int)):=LY
      have eF:Hid (NI w w8 pd (D:Int)):=Oz
      clear hs7 Ow LV LZ Ox Oy hD7 M0 LY Oz Ff hq0 hr0 LM hD6 ha1 ha2 xg jJ HD5 iK hpq hpr hpn vI hnq hnr Ov
      go_wp2_with fail
      have BC:Hid _:=q7l w8 pr 0 _ M3.out.2.2
      have M4:Hid ((((N%D:Nat):Int).sign==0)=decide (N%D=0)):=by
       show (((N%D:Nat):Int).sign==0)=decide (N%D=0)
       generalize N%D=z
       by_cases hz:z=0
       ·subst hz;rfl
       ·have:(z:Int).sign=1:=Int.sign_eq_one_of_pos (by omega)
        rw[this];simp [hz]
      obtain⟨sgn,Fg⟩:∃ sgn,sgn=((N%D:Nat):Int).sign:=⟨_,rfl⟩
      rw[← Fg] at BC M4
      clear Fg
      have hmd:N%D≤N:=Nat.mod_le _ _
      have Fh:N%D*2<2^(32*(2*K+1)):=by
       have h1:=mh.out.1
       have h2:2^(32*(2*K))*2≤2^(32*(2*K+1)):=by rw[← Nat.pow_succ];exact Nat.pow_le_pow_right (by omega) (by omega)
       omega
      have hD2:D<2^(32*(2*K+1)):=Nat.lt_of_lt_of_le mh.out.2.1 (Nat.pow_le_pow_right (by omega) (by omega))
      have Fj:Hid (N%D*2<2^(32*(2*K+1))):=Fh
      have OA:Hid (N%D<2^(32*(2*K))):=Nat.lt_of_le_of_lt hmd mh.out.1
      have um:Hid (D<2^(32*(2*K+1))):=hD2
      clear hmd Fh hD2
      refine Calls.mono (P:=Tryz.prog) BC.out ?_
      rintro e w9 ⟨rfl,pY⟩
      have M5:=G.trans xO pY
      have mq:Hid (NI w w9 pq ((N/D:Nat):Int)):=nX.out.G pY
      have M6:Hid (NI w w9 pr ((N%D:Nat):Int)):=M3.out.G pY
      have eQ:Hid (NI w w9 pd (D:Int)):=eF.out.G pY
      clear pY nX M3 eF BC xO
      go_wp2_with fail
      have hc0:=NI.new M5 38
      have ha1:=(G.refl w9).alloc (.cells #[.bool false,.slice none 0 0] 38)
      have BD:=M6.out.G ha1
      have Fp:=mq.out.G ha1
      have Fq:=eQ.out.G ha1
      have fM:=G.trans M5 ha1
      have hcq:pq≠w9.heap.size:=by have:=mq.out.2.1;omega
      have hcr:pr≠w9.heap.size:=by have:=M6.out.2.1;omega
      have hcd:pd≠w9.heap.size:=by have:=eQ.out.2.1;omega
      generalize w9.heap.size=pc at *
      refine Calls.mono (P:=Tryz.prog) (q2u _ pc 0 pr 0 1 0 _ (2*K) (by omega) (by omega) (by rw[Int.natAbs_natCast];exact OA.out) hc0.2.1 BD.2.1 hc0.2.2 BD.2.2) ?_
      intro e aM hs
      obtain⟨rfl,Fs,yw,-,hk10⟩:=SetTo.step fM hc0 hs
      have Fu:=hk10 pq _ hcq Fp
      have BF:=hk10 pd _ hcd Fq
      rw[show ((N%D:Nat):Int)*2^1=((N%D*2:Nat):Int) from by push_cast;rfl] at yw
      have OB:Hid _:=qbs aM pc 0 pd 0 _ _ (2*K+1) (by omega) (by rw[Int.natAbs_natCast];exact Fj.out) (by rw[Int.natAbs_natCast];exact um.out) yw.2.1 BF.2.1 yw.2.2 BF.2.2
      have lC:Hid (NI w aM pq ((N/D:Nat):Int)):=Fu
      clear hs hk10 Fu BF yw Fp Fq BD fM ha1 hc0 mq M6 eQ M5
      go_wp2_with fail
      refine Calls.mono (P:=Tryz.prog) OB.out ?_
      rintro e dm ⟨rfl,BG⟩
      have uo:=G.trans Fs BG
      have lD:Hid (NI w dm pq ((N/D:Nat):Int)):=lC.out.G BG
      clear BG lC OB Fs OA Fj um
      have wh:Hid (q0v N D=N/D+(if 0<cmpI ((N%D*2:Nat):Int) (D:Int)∨(cmpI ((N%D*2:Nat):Int) (D:Int)=0∧N/D%2=1) then 1 else 0)):=q8n
      have hcv:cmpI ((N%D*2:Nat):Int) (D:Int)=1∨cmpI ((N%D*2:Nat):Int) (D:Int)=0∨cmpI ((N%D*2:Nat):Int) (D:Int)= -1:=by unfold cmpI;split<;>(try split)<;>simp
      have Fv:N/D<2^(32*(2*K)):=Nat.lt_of_le_of_lt (Nat.div_le_self _ _) mh.out.1
      have wm:Hid (N/D<2^(32*(2*K))):=Fv
      generalize cmpI ((N%D*2:Nat):Int) (D:Int)=cv at *
      generalize N/D=Q0 at *
      clear Fv
      rcases hcv with rfl|rfl|rfl
      case' inl=>
       rw[if_pos (by omega)] at wh
       go_wp2_with fail
       refine Calls.mono (P:=Tryz.prog) (q2m dm 1 (by omega)) ?_
       intro e bJ hni
       obtain⟨p1,rfl,rF,BH,wo,wu⟩:=hni
       have wy:=G.trans uo rF
       have kU:=lD.out.G rF
       have hne:p1≠pq:=by have:=lD.out.2.1;omega
       have hq1:Q0<2^(32*(2*K+1)):=Nat.lt_of_lt_of_le wm.out (Nat.pow_le_pow_right (by omega) (by omega))
       have Fw:1<2^(32*(2*K+1)):=Nat.one_lt_two_pow (by omega)
       have HAD:Hid _:=q8w bJ pq 0 pq 0 p1 0 Q0 Q0 1 (2*K+1) (by omega) hq1 Fw kU.2.1 kU.2.1 wo kU.2.2 kU.2.2 wu
       have wz:Hid (NI w bJ pq (Q0:Int)):=kU
       clear rF lD kU hq1 Fw BH wo wu uo
       go_wp2_with fail
       refine Calls.mono (P:=Tryz.prog) HAD.out ?_
       intro e jq hs
       obtain⟨rfl,wB,rG,-,-⟩:=SetTo.step wy wz.out hs
       rw[show (Q0:Int)+1=((Q0+1:Nat):Int) from by omega,← wh.out] at rG
       have rH:Hid (NI w jq pq ((q0v N D:Nat):Int)):=rG
       clear hs rG HAD wz wy hne
       go_wp2_with fail
      case' inr.inl=>
       obtain⟨z,hz,hz1⟩:∃ z:Nat,Q0/2^0%2=z∧z≤1:=⟨_,rfl,by omega⟩
       have M7:Hid _:=qbH dm pq 0 0 Q0 (2*K) (by omega) (by omega) wm.out (by omega) lD.out.2.2
       rw[Int.natAbs_natCast,hz] at M7
       rw[Nat.pow_zero,Nat.div_one] at hz
       rw[hz] at wh
       clear hz
       go_wp2_with fail
       refine Calls.mono (P:=Tryz.prog) M7.out ?_
       rintro e jK ⟨rfl,BI⟩
       have yz:=G.trans uo BI
       have qf:Hid (NI w jK pq (Q0:Int)):=lD.out.G BI
       clear BI lD uo M7
       by_cases hz0:z=1
       case' pos=>
        subst hz0
        rw[if_pos (by simp)] at wh
        go_wp2_with fail
        refine Calls.mono (P:=Tryz.prog) (q2m jK 1 (by omega)) ?_
        intro e bJ hni
        obtain⟨p1,rfl,rF,BH,wo,wu⟩:=hni
        have wy:=G.trans yz rF
        have kU:=qf.out.G rF
        have hne:p1≠pq:=by have:=qf.out.2.1;omega
        have hq1:Q0<2^(32*(2*K+1)):=Nat.lt_of_lt_of_le wm.out (Nat.pow_le_pow_right (by omega) (by omega))
        have Fw:1<2^(32*(2*K+1)):=Nat.one_lt_two_pow (by omega)
        have HAD:Hid _:=q8w bJ pq 0 pq 0 p1 0 Q0 Q0 1 (2*K+1) (by omega) hq1 Fw kU.2.1 kU.2.1 wo kU.2.2 kU.2.2 wu
        have wz:Hid (NI w bJ pq (Q0:Int)):=kU
        clear rF qf kU hq1 Fw BH wo wu yz
        go_wp2_with fail
        refine Calls.mono (P:=Tryz.prog) HAD.out ?_
        intro e jq hs
        obtain⟨rfl,wB,rG,-,-⟩:=SetTo.step wy wz.out hs
        rw[show (Q0:Int)+1=((Q0+1:Nat):Int) from by omega,← wh.out] at rG
        have rH:Hid (NI w jq pq ((q0v N D:Nat):Int)):=rG
        clear hs rG HAD wz wy hne
        go_wp2_with fail
       case' neg=>
        obtain rfl:z=0:=by omega
        rw[if_neg (by simp)] at wh
        go_wp2_with fail
        have rH:Hid (NI w jK pq ((q0v N D:Nat):Int)):=by rw[wh.out,Nat.add_zero];exact qf.out
        have wB:=yz
        clear qf yz
      case' inr.inr=>
       rw[if_neg (by omega)] at wh
       have rH:Hid (NI w dm pq ((q0v N D:Nat):Int)):=by rw[wh.out,Nat.add_zero];exact lD.out
       have wB:=uo
       clear lD uo
       go_wp2_with fail
      all_goals as_aux_lemma=>
       have zA:q0v N D<2^(32*(2*K+1)):=by
        have h1:=wh.out
        have h2:=wm.out
        have h3:2^(32*(2*K))*2≤2^(32*(2*K+1)):=by rw[← Nat.pow_succ];exact Nat.pow_le_pow_right (by omega) (by omega)
        omega
       have BJ:=blen_le_iff.2 zA
       obtain⟨Q,hQ⟩:∃ Q,Q=q0v N D:=⟨_,rfl⟩
       rw[← hQ] at HQ rH zA BJ
       have GK:Hid _:=q2A _ pq 0 Q (2*K+1) (by omega) (by rw[Int.natAbs_natCast];exact zA) rH.out.2.2
       rw[Int.natAbs_natCast] at GK
       have M8:Hid (Q<2^(32*(2*K+1))):=zA
       obtain⟨LQ,M9⟩:∃ LQ,LQ=blen Q:=⟨_,rfl⟩
       rw[← M9] at GK BJ
       have BL:Hid (LQ=blen Q):=M9
       have RG:(LQ:Int)≤700000:=by omega
       clear hQ zA M9 BJ wh wm
       refine Calls.mono (P:=Tryz.prog) GK.out ?_
       rintro e qg ⟨rfl,BM⟩
       have BO:=G.trans wB BM
       have yA:Hid (NI w qg pq (Q:Int)):=rH.out.G BM
       clear BM rH wB GK
       by_cases hb1:LQ≤m
       ·have Ma:decide (LQ≤m)=true:=by simpa using hb1
        have HB1:Hid (LQ≤m):=hb1
        clear hb1
        go_wp2_with fail
        go_ret3
        exact⟨pq,Q,p,p,sgn==0,rfl,BO,yA.out,⟨Or.inl ⟨by rw[HQ.out,← BL.out];exact HB1.out,HQ.out.symm,rfl⟩,by rw[HX.out];exact M4.out⟩,HAT.out⟩
       ·have Ma:decide (LQ≤m)=false:=by simpa using hb1
        have HB1:Hid (¬ LQ≤m):=hb1
        have BP:Hid _:=q2A _ pq 0 Q (2*K+1) (by omega) (by rw[Int.natAbs_natCast];exact M8.out) yA.out.2.2
        rw[Int.natAbs_natCast,← BL.out] at BP
        have kR:Q≠0:=by
         intro h0
         have:=BL.out
         rw[h0] at this
         have h2:blen 0=0:=rfl
         omega
        have GL:Hid (Q≠0):=kR
        clear hb1 kR
        go_wp2_with fail
        refine Calls.mono (P:=Tryz.prog) BP.out ?_
        rintro e w16 ⟨rfl,BQ⟩
        have BR:=G.trans BO BQ
        have yB:Hid (NI w w16 pq (Q:Int)):=yA.out.G BQ
        clear BQ yA BO BP
        have hnext:¬ q5m m Q→q29 A B m p0 (p+1)∧p=p0:=fun hs=>by
         rw[← HQ.out] at hs
         obtain⟨h1,h2⟩:=q7w ng.out HB0.out CP.out HAT.out hs
         exact⟨h2,h1⟩
        have sO:Hid (¬ q5m m Q→q29 A B m p0 (p+1)∧p=p0):=hnext
        clear hnext
        by_cases hb2:LQ=m+1
        ·have Mc:((LQ:Int)==(m:Int)+1)=true:=by simp;omega
         have rD:Hid (LQ=m+1):=hb2
         have OC:Hid (Calls Tryz.prog 127 #[.pointer (some ⟨pq,0,none⟩)] w16 (qbW w16 Q)):=qcA w16 pq 0 Q (2*K+1) (by omega) (by rw[Int.natAbs_natCast];exact M8.out) (by rw[Int.natAbs_natCast];exact GL.out) yB.out.2.1 yB.out.2.2
         have Ty:IntKind.u64.wrap (m:Int)=m:=by rw[IntKind.wrap_u64];omega
         clear hb2
         go_wp2_with fail
         refine Calls.mono (P:=Tryz.prog) OC.out ?_
         intro e fw htz
         obtain⟨k,rfl,hk,BS⟩:=htz
         have BU:=G.trans BR BS
         have wC:Hid (NI w fw pq (Q:Int)):=yB.out.G BS
         have OD:Hid (q1R Q k):=hk
         clear BS yB BR OC hk
         by_cases Fx:m≤k
         ·have Md:decide (m≤k)=true:=by simpa using Fx
          have OE:Q%2^m=0:=by
           obtain⟨h1,-⟩:=OD.out
           exact Nat.mod_eq_zero_of_dvd (Nat.dvd_trans (Nat.pow_dvd_pow 2 Fx) (Nat.dvd_of_mod_eq_zero h1))
          have RH:Hid (Q%2^m=0):=OE
          have OG:Hid (Calls Tryz.prog 128 #[.pointer (some ⟨pq,0,none⟩),.pointer (some ⟨pq,0,none⟩),.int .u64 ((1:Nat):Int)] fw (SetTo fw pq 0 ((Q/2^1:Nat):Int))):=
           qck fw pq 0 pq 0 1 Q Q (2*K+1) (by omega) (by omega) (by rw[Int.natAbs_natCast];exact M8.out) (by omega) wC.out.2.1 wC.out.2.2 wC.out.2.2
          clear Fx OE
          go_wp2_with fail
          refine Calls.mono (P:=Tryz.prog) OG.out ?_
          intro e kJ hs
          obtain⟨rfl,Me,Fy,-,-⟩:=SetTo.step BU wC.out hs
          have Mf:Hid (NI w kJ pq ((Q/2^1:Nat):Int)):=Fy
          clear hs Fy wC BU OG
          go_wp2_with fail
          go_ret3
          exact⟨pq,Q/2^1,p+1,p,sgn==0,rfl,Me,Mf.out,⟨Or.inr ⟨by rw[HQ.out,← BL.out];exact rD.out,by rw[HQ.out];exact RH.out,by rw[HQ.out,Nat.pow_one],rfl⟩,by rw[HX.out];exact M4.out⟩,HAT.out⟩
         ·have Md:decide (m≤k)=false:=by simpa using Fx
          have hns:¬ q5m m Q:=by
           rintro(h|⟨-,h⟩)
           ·exact HB1.out (by rw[BL.out];exact h)
           ·obtain⟨h1,h2⟩:=OD.out
            have h3:2^(k+1)∣Q:=Nat.dvd_trans (Nat.pow_dvd_pow 2 (by omega)) (Nat.dvd_of_mod_eq_zero h)
            have h4:Q%2^(k+1)=0:=Nat.mod_eq_zero_of_dvd h3
            rw[Nat.pow_succ,Nat.mod_mul,h1,h2] at h4
            have:=Nat.two_pow_pos k
            omega
          obtain⟨wD,BV⟩:=sO.out hns
          have BX:Hid (q29 A B m p0 (p+1)):=wD
          have hle1:p0≤p+1:=by omega
          have hle2:p+1≤p0+1:=by omega
          have Mg:Hid ((p0+2-(p+1)).toNat<(p0+2-p).toNat):=by show (p0+2-(p+1)).toNat<(p0+2-p).toNat;omega
          clear hns wD Fx BV
          go_wp2_with fail
          go_roundw
          case rel=>exact⟨p+1,by go_num,BX.out,hle1,hle2,BU⟩
          case measure=>have h1:=LJ.out;have h2:(p0+2-(p+1)).toNat<(p0+2-p).toNat:=Mg.out;simp only[intOf];omega
        ·have Mc:((LQ:Int)==(m:Int)+1)=false:=by simp;omega
         have hns:¬ q5m m Q:=by
          rintro(h|⟨h,-⟩)
          ·exact HB1.out (by rw[BL.out];exact h)
          ·exact hb2 (by rw[BL.out];exact h)
         obtain⟨wD,BV⟩:=sO.out hns
         have BX:Hid (q29 A B m p0 (p+1)):=wD
         have hle1:p0≤p+1:=by omega
         have hle2:p+1≤p0+1:=by omega
         have Mg:Hid ((p0+2-(p+1)).toNat<(p0+2-p).toNat):=by show (p0+2-(p+1)).toNat<(p0+2-p).toNat;omega
         clear hns wD hb2 BV
         go_wp2_with fail
         go_roundw
         case rel=>exact⟨p+1,by go_num,BX.out,hle1,hle2,BR⟩
         case measure=>have h1:=LJ.out;have h2:(p0+2-(p+1)).toNat<(p0+2-p).toNat:=Mg.out;simp only[intOf];omega
end Go.Proofs.YtljkfjjchkehaaaGreatDoor
