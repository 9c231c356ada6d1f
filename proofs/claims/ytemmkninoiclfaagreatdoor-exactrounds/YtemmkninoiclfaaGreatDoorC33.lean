/- What is proved here: contracts of the reference's big numbers: near, over this seat's translation. -/
import Derived.Test.YtemmkninoiclfaaGreatDoorC17
import Derived.OwnWalk
namespace Go.Proofs.YtemmkninoiclfaaGreatDoor
open Go.ChangeShapes Go.WideShapes Go.ChangeAt Go.RowKit
open BN
def qa6 (w:World) (A B m:Nat) (p0:Int) (e:Ending) (w':World):Prop:=
 ∃ (q v:Nat) (P p:Int) (x:Bool),e= .returned (.tuple #[.pointer (some ⟨q,0,none⟩),.int .i64 P,.bool x])∧G w w'∧NI w w' q (v:Int)∧q5D A B m p v P x∧q2g A B m p0 p
set_option maxRecDepth 10000 in
set_option maxHeartbeats 4000000 in
theorem qbC (w:World) (ba oa bb ob A B m K:Nat) (low:Int) (hK:K≤10000) (hK1:100≤K) (fO:A≠0) (hB0:B≠0) (hA2:A<2^(32*K)) (hB2:B<2^(32*K)) (hm1:1≤m) (hm:m≤64) (hlow: -2000≤low) (Od:low≤2000)
  (ig:ba<w.heap.size) (hbb:bb<w.heap.size) (ha:IntIs w ba oa (A:Int)) (hb:IntIs w bb ob (B:Int)):
  Calls Tryz.prog 138 #[.pointer (some ⟨ba,oa,none⟩),.pointer (some ⟨bb,ob,none⟩),.int .i64 (m:Int),.int .i64 low] w (qa6 w A B m (q1n A B m low)):=by
 have hla:=blen_le_iff.2 hA2
 have hlb:=blen_le_iff.2 hB2
 have eX:Hid (∀ w1,G w w1→_):=fun w1 g=>q2E w1 ba oa A K (by omega) hA2 (ha.G ig g)
 have zU:Hid (∀ w1,G w w1→_):=fun w1 g=>q2E w1 bb ob B K (by omega) hB2 (hb.G hbb g)
 rw[Int.natAbs_natCast] at eX zU
 have mJ:Hid (∀ w0 w1 p,G w w1→NI w0 w1 p 0→_):=fun w0 w1 p g h=>q5h w1 p 0 ba oa 0 A K (by omega) hA2 h.2.1 (G.lt g ig) h.2.2 (ha.G ig g)
 have kg:Hid (∀ w0 w1 p,G w w1→NI w0 w1 p 0→_):=fun w0 w1 p g h=>q5h w1 p 0 bb ob 0 B K (by omega) hB2 h.2.1 (G.lt g hbb) h.2.2 (hb.G hbb g)
 have Tm:(m:Int)≤64:=by omega
 have Tn:(blen A:Int)≤320000:=by omega
 have Tp:(blen B:Int)≤320000:=by omega
 have ko:Hid (A≠0):=fO
 have HB0:Hid (B≠0):=hB0
 have HA2:Hid _:=hA2
 have HB2:Hid _:=hB2
 by_cases hpl:(blen A:Int)-blen B-m<low
 case' pos=>
  obtain⟨p0,hp0⟩:∃ p0,p0=q1n A B m low:=⟨_,rfl⟩
  have Bl:Hid _:=hp0
  have lW:=hp0
  unfold q1n at lW
  rw[if_pos hpl] at lW
  rw[← hp0]
  have hp1: -(32*(K:Int))≤p0:=by omega
  have hp2:p0+1≤32*(K:Int):=by omega
  have rJ:decide ((blen A:Int)-blen B-m<low)=true:=by simpa using hpl
  generalize blen A=LA at *
  generalize blen B=LB at *
  subst lW
  clear fO hB0 hA2 hB2 hp0 ha hb hpl hla hlb
 case' neg=>
  obtain⟨p0,hp0⟩:∃ p0,p0=q1n A B m low:=⟨_,rfl⟩
  have Bl:Hid _:=hp0
  have lW:=hp0
  unfold q1n at lW
  rw[if_neg hpl] at lW
  rw[← hp0]
  have hp1: -(32*(K:Int))≤p0:=by omega
  have hp2:p0+1≤32*(K:Int):=by omega
  have rJ:decide ((blen A:Int)-blen B-m<low)=false:=by simpa using hpl
  rw[← lW] at rJ
  generalize blen A=LA at *
  generalize blen B=LB at *
  have hpe:(LA:Int)-LB-m=p0:=lW.symm
  clear fO hB0 hA2 hB2 hp0 ha hb hpl hla hlb lW
 all_goals
  go_enter Tryz.func138,Tryz.ntmps138
  go_wp2_with fail
  refine Calls.mono (P:=Tryz.prog) (eX.out w (G.refl _)) ?_
  rintro e w1 ⟨rfl,hg1⟩
  go_wp2_with fail
  refine Calls.mono (P:=Tryz.prog) (zU.out w1 hg1) ?_
  rintro e w2 ⟨rfl,hg2⟩
  have hG2:=G.trans hg1 hg2
  go_wp2_with fail
  clear hg1 hg2 eX zU rJ
  go_loopw [11] (fun vp wr=>∃ p:Int,vp= .int .i64 p∧q2g A B m p0 p∧p0≤p∧p≤p0+1∧G w wr) (fun vp _=>(p0+2-intOf vp).toNat)
  case atStart=>exact⟨p0,rfl,Or.inl rfl,Int.le_refl _,by omega,hG2⟩
  case round=>
   obtain⟨p,rfl,hat,Oe,hpb,hG⟩:=hrel
   have HAT:Hid (q2g A B m p0 p):=hat
   have EM: -320000≤p:=by omega
   have hpi2:p≤320000:=by omega
   clear hat hG2
   as_aux_lemma=>
    go_wp2_with fail
    have hn0:=NI.new hG 38
    have bO:=G.trans hG ((G.refl wr).alloc (.cells #[.bool false,.slice none 0 0] 38))
    refine Calls.mono (P:=Tryz.prog) (mJ.out w _ _ bO hn0) ?_
    intro e w3 hs
    obtain⟨rfl,hG3,gy,-,-⟩:=SetTo.step bO hn0 hs
    clear hs hn0 bO
    generalize wr.heap.size=pn at *
    clear hG
    go_wp2_with fail
    have hn0:=NI.new hG3 38
    have nI:=gy.G ((G.refl w3).alloc (.cells #[.bool false,.slice none 0 0] 38))
    have bO:=G.trans hG3 ((G.refl w3).alloc (.cells #[.bool false,.slice none 0 0] 38))
    have hne:w3.heap.size≠pn:=by have:=gy.2.1;omega
    refine Calls.mono (P:=Tryz.prog) (kg.out w _ _ bO hn0) ?_
    intro e w4 hs
    obtain⟨rfl,hG4,hD4,-,hkp⟩:=SetTo.step bO hn0 hs
    have eO:Hid (NI w w4 pn A):=hkp pn A hne.symm nI
    have HD4:Hid (NI w w4 w3.heap.size B):=hD4
    clear hs hn0 bO hkp nI gy hG3 hD4
    generalize w3.heap.size=pd at *
    have jH:Hid (upP A p<2^(32*(2*K))∧loP B p<2^(32*(2*K))∧loP B p≠0):=⟨qbN HA2.out (by omega),qbL HB2.out (by omega),Nat.pos_iff_ne_zero.1 (q2T HB0.out)⟩
    by_cases Bn:0≤p
    case' pos=>
     obtain⟨k,rfl⟩:∃ k:Nat,p=k:=Int.eq_ofNat_of_zero_le Bn
     have HL:Hid (Calls Tryz.prog 68 #[.pointer (some ⟨pd,0,none⟩),.pointer (some ⟨pd,0,none⟩),.int .u64 (k:Int)] w4 (SetTo w4 pd 0 ((B:Int)*2^k))):=
      q1K w4 pd 0 pd 0 k B B K (by omega) (by omega) HB2.out HD4.out.2.1 HD4.out.2.1 HD4.out.2.2 HD4.out.2.2
     have hEq:(B:Int)*2^k=((loP B k:Nat):Int):=by unfold loP;push_cast;rfl
     have tO:(A:Int)=((upP A k:Nat):Int):=by unfold upP;rw[show (-(k:Int)).toNat=0 from by omega];simp
     rw[hEq] at HL
     have HE2:Hid _:=tO
     clear hEq tO
     go_wp2_with fail
     refine Calls.mono (P:=Tryz.prog) HL.out ?_
     intro e w5 hs
     obtain⟨rfl,bZ,hD5,-,hkp⟩:=SetTo.step hG4 HD4.out hs
     have gT:=hkp pn A hne.symm eO.out
     rw[HE2.out] at gT
     have gz:Hid (NI w w5 pn (upP A (k:Int):Nat)):=gT
     have HD5:Hid (NI w w5 pd (loP B (k:Int):Nat)):=hD5
     clear hs hkp hD5 gT HE2 HL eO HD4 hG4
     obtain⟨p,hp⟩:∃ p:Int,p=(k:Int):=⟨_,rfl⟩
     rw[← hp] at gz HD5 Bn Oe hpb EM hpi2 jH HAT ⊢
     have KG:Hid _:=hp
     clear hp Bn
    case' neg=>
     obtain⟨k,hk⟩:∃ k:Nat,p= -(k:Int):=⟨(-p).toNat,by omega⟩
     have KH:decide (0≤p)=false:=by simpa using Bn
     subst hk
     have HL:Hid (Calls Tryz.prog 68 #[.pointer (some ⟨pn,0,none⟩),.pointer (some ⟨pn,0,none⟩),.int .u64 (k:Int)] w4 (SetTo w4 pn 0 ((A:Int)*2^k))):=
      q1K w4 pn 0 pn 0 k A A K (by omega) (by omega) HA2.out eO.out.2.1 eO.out.2.1 eO.out.2.2 eO.out.2.2
     have hEq:(A:Int)*2^k=((upP A (-(k:Int)):Nat):Int):=by unfold upP;rw[show (-(-(k:Int))).toNat=k from by omega];push_cast;rfl
     have tO:(B:Int)=((loP B (-(k:Int)):Nat):Int):=by unfold loP;rw[show (-(k:Int)).toNat=0 from by omega];simp
     rw[hEq] at HL
     have HE2:Hid _:=tO
     clear hEq tO
     go_wp2_with fail
     refine Calls.mono (P:=Tryz.prog) HL.out ?_
     intro e w5 hs
     obtain⟨rfl,bZ,gT,-,hkp⟩:=SetTo.step hG4 eO.out hs
     have hD5:=hkp pd B hne HD4.out
     rw[HE2.out] at hD5
     have gz:Hid (NI w w5 pn (upP A (-(k:Int)):Nat)):=gT
     have HD5:Hid (NI w w5 pd (loP B (-(k:Int)):Nat)):=hD5
     clear hs hkp hD5 gT HE2 HL eO HD4 hG4 KH
     obtain⟨p,hp⟩:∃ p:Int,p= -(k:Int):=⟨_,rfl⟩
     rw[← hp] at gz HD5 Bn Oe hpb EM hpi2 jH HAT ⊢
     have KG:Hid _:=hp
     clear hp Bn
    all_goals
     as_aux_lemma=>
      obtain⟨N,hN⟩:∃ N,N=upP A p:=⟨_,rfl⟩
      obtain⟨D,hD⟩:∃ D,D=loP B p:=⟨_,rfl⟩
      rw[← hN] at gz jH
      rw[← hD] at HD5 jH
      have HQ:Hid (q1B A B p=q0v N D):=by show q1B A B p=q0v N D;rw[hN,hD];rfl
      have HX:Hid (decide (upP A p%loP B p=0)=decide (N%D=0)):=by rw[hN,hD];exact rfl
      clear hN hD mJ kg
      go_wp2_with fail
      have ha1:=(G.refl w5).alloc (.cells #[.bool false,.slice none 0 0] 38)
      have ha2:=ha1.alloc (.cells #[.bool false,.slice none 0 0] 38)
      have hq0:=(NI.new (G.trans bZ (G.refl w5)) 38).G ((G.refl (w5.alloc (.cells #[.bool false,.slice none 0 0] 38))).alloc (.cells #[.bool false,.slice none 0 0] 38))
      have hr0:=NI.new (G.trans bZ ha1) 38
      rw[show (w5.alloc (.cells #[.bool false,.slice none 0 0] 38)).heap.size=w5.heap.size+1 from by simp] at hr0
      have KI:=gz.out.G ha2
      have hD6:=HD5.out.G ha2
      have hpn:=gz.out.2.1
      have rJ:=HD5.out.2.1
      have pY:=G.trans bZ ha2
      obtain⟨pr,hpr⟩:∃ pr,pr=w5.heap.size+1:=⟨_,rfl⟩
      rw[← hpr] at hr0 ⊢
      generalize hpq:w5.heap.size=pq at *
      generalize (w5.alloc (.cells #[.bool false,.slice none 0 0] 38)).alloc (.cells #[.bool false,.slice none 0 0] 38)=w6 at *
      have KJ:pr≠pq:=by omega
      have hnq:pn≠pq:=by omega
      have Og:pd≠pq:=by omega
      have hnr:pn≠pr:=by omega
      have hdr:pd≠pr:=by omega
      refine Calls.mono (P:=Tryz.prog) (q6m w6 pq 0 pn 0 pd 0 pr 0 0 0 N D (2*K) (by omega) jH.out.1 jH.out.2.1 (by have:=jH.out.2.2;omega) hq0.2.1 hr0.2.1 KI.2.1 hD6.2.1 hq0.2.2 hr0.2.2 (Or.inl KJ) KI.2.2 hD6.2.2) ?_
      intro e w8 KL
      obtain⟨rfl,w7,e1,e2,hs7,Oh⟩:=KL
      obtain⟨-,EO,Oi,-,KN⟩:=SetTo.step pY hq0 hs7
      have Oj:=KN pr 0 KJ hr0
      have hD7:=KN pd D Og hD6
      obtain⟨-,vX,KO,-,KP⟩:=SetTo.step EO Oj Oh
      have KQ:=KP pq _ KJ.symm Oi
      have Ol:=KP pd _ hdr hD7
      rw[show Int.tdiv (N:Int) D=((N/D:Nat):Int) from rfl] at KQ
      rw[show Int.tmod (N:Int) D=((N%D:Nat):Int) from rfl] at KO
      have kZ:Hid (NI w w8 pq ((N/D:Nat):Int)):=KQ
      have KR:Hid (NI w w8 pr ((N%D:Nat):Int)):=KO
      have aZ:Hid (NI w w8 pd (D:Int)):=Ol
      clear hs7 Oh KN KP Oi Oj hD7 KQ KO Ol EO hq0 hr0 KI hD6 ha1 ha2 pY gz HD5 bZ hpq hpr hpn rJ hnq hnr Og
      go_wp2_with fail
      have gu:Hid _:=q76 w8 pr 0 _ KR.out.2.2
      have KS:Hid ((((N%D:Nat):Int).sign==0)=decide (N%D=0)):=by
       show (((N%D:Nat):Int).sign==0)=decide (N%D=0)
       generalize N%D=z
       by_cases hz:z=0
       ·subst hz;rfl
       ·have:(z:Int).sign=1:=Int.sign_eq_one_of_pos (by omega)
        rw[this];simp [hz]
      obtain⟨sgn,EP⟩:∃ sgn,sgn=((N%D:Nat):Int).sign:=⟨_,rfl⟩
      rw[← EP] at gu KS
      clear EP
      have hmd:N%D≤N:=Nat.mod_le _ _
      have ER:N%D*2<2^(32*(2*K+1)):=by
       have h1:=jH.out.1
       have h2:2^(32*(2*K))*2≤2^(32*(2*K+1)):=by rw[← Nat.pow_succ];exact Nat.pow_le_pow_right (by omega) (by omega)
       omega
      have hD2:D<2^(32*(2*K+1)):=Nat.lt_of_lt_of_le jH.out.2.1 (Nat.pow_le_pow_right (by omega) (by omega))
      have ES:Hid (N%D*2<2^(32*(2*K+1))):=ER
      have Co:Hid (N%D<2^(32*(2*K))):=Nat.lt_of_le_of_lt hmd jH.out.1
      have qC:Hid (D<2^(32*(2*K+1))):=hD2
      clear hmd ER hD2
      refine Calls.mono (P:=Tryz.prog) gu.out ?_
      rintro e w9 ⟨rfl,mK⟩
      have KT:=G.trans vX mK
      have lX:Hid (NI w w9 pq ((N/D:Nat):Int)):=kZ.out.G mK
      have KU:Hid (NI w w9 pr ((N%D:Nat):Int)):=KR.out.G mK
      have bC:Hid (NI w w9 pd (D:Int)):=aZ.out.G mK
      clear mK kZ KR aZ gu vX
      go_wp2_with fail
      have hc0:=NI.new KT 38
      have ha1:=(G.refl w9).alloc (.cells #[.bool false,.slice none 0 0] 38)
      have Ad:=KU.out.G ha1
      have ET:=lX.out.G ha1
      have EU:=bC.out.G ha1
      have bO:=G.trans KT ha1
      have hcq:pq≠w9.heap.size:=by have:=lX.out.2.1;omega
      have hcr:pr≠w9.heap.size:=by have:=KU.out.2.1;omega
      have hcd:pd≠w9.heap.size:=by have:=bC.out.2.1;omega
      generalize w9.heap.size=pc at *
      refine Calls.mono (P:=Tryz.prog) (q1K _ pc 0 pr 0 1 0 _ (2*K) (by omega) (by omega) (by rw[Int.natAbs_natCast];exact Co.out) hc0.2.1 Ad.2.1 hc0.2.2 Ad.2.2) ?_
      intro e aU hs
      obtain⟨rfl,EW,wy,-,hk10⟩:=SetTo.step bO hc0 hs
      have EX:=hk10 pq _ hcq ET
      have Ae:=hk10 pd _ hcd EU
      rw[show ((N%D:Nat):Int)*2^1=((N%D*2:Nat):Int) from by push_cast;rfl] at wy
      have bM:Hid _:=q4J aU pc 0 pd 0 _ _ (2*K+1) (by omega) (by rw[Int.natAbs_natCast];exact ES.out) (by rw[Int.natAbs_natCast];exact qC.out) wy.2.1 Ae.2.1 wy.2.2 Ae.2.2
      have jo:Hid (NI w aU pq ((N/D:Nat):Int)):=EX
      clear hs hk10 EX Ae wy ET EU Ad bO ha1 hc0 lX KU bC KT
      go_wp2_with fail
      refine Calls.mono (P:=Tryz.prog) bM.out ?_
      rintro e dM ⟨rfl,Af⟩
      have qD:=G.trans EW Af
      have iw:Hid (NI w dM pq ((N/D:Nat):Int)):=jo.out.G Af
      clear Af jo bM EW Co ES qC
      have oQ:Hid (q0v N D=N/D+(if 0<cmpI ((N%D*2:Nat):Int) (D:Int)∨(cmpI ((N%D*2:Nat):Int) (D:Int)=0∧N/D%2=1) then 1 else 0)):=q7w
      have hcv:cmpI ((N%D*2:Nat):Int) (D:Int)=1∨cmpI ((N%D*2:Nat):Int) (D:Int)=0∨cmpI ((N%D*2:Nat):Int) (D:Int)= -1:=by unfold cmpI;split<;>(try split)<;>simp
      have EY:N/D<2^(32*(2*K)):=Nat.lt_of_le_of_lt (Nat.div_le_self _ _) jH.out.1
      have tQ:Hid (N/D<2^(32*(2*K))):=EY
      generalize cmpI ((N%D*2:Nat):Int) (D:Int)=cv at *
      generalize N/D=Q0 at *
      clear EY
      rcases hcv with rfl|rfl|rfl
      case' inl=>
       rw[if_pos (by omega)] at oQ
       go_wp2_with fail
       refine Calls.mono (P:=Tryz.prog) (q1p dM 1 (by omega)) ?_
       intro e l7 hni
       obtain⟨p1,rfl,oJ,Ag,tT,tX⟩:=hni
       have tY:=G.trans qD oJ
       have jb:=iw.out.G oJ
       have hne:p1≠pq:=by have:=iw.out.2.1;omega
       have hq1:Q0<2^(32*(2*K+1)):=Nat.lt_of_lt_of_le tQ.out (Nat.pow_le_pow_right (by omega) (by omega))
       have EZ:1<2^(32*(2*K+1)):=Nat.one_lt_two_pow (by omega)
       have HAD:Hid _:=q7h l7 pq 0 pq 0 p1 0 Q0 Q0 1 (2*K+1) (by omega) hq1 EZ jb.2.1 jb.2.1 tT jb.2.2 jb.2.2 tX
       have tZ:Hid (NI w l7 pq (Q0:Int)):=jb
       clear oJ iw jb hq1 EZ Ag tT tX qD
       go_wp2_with fail
       refine Calls.mono (P:=Tryz.prog) HAD.out ?_
       intro e uD hs
       obtain⟨rfl,uf,oK,-,-⟩:=SetTo.step tY tZ.out hs
       rw[show (Q0:Int)+1=((Q0+1:Nat):Int) from by omega,← oQ.out] at oK
       have oL:Hid (NI w uD pq ((q0v N D:Nat):Int)):=oK
       clear hs oK HAD tZ tY hne
       go_wp2_with fail
      case' inr.inl=>
       obtain⟨z,hz,hz1⟩:∃ z:Nat,Q0/2^0%2=z∧z≤1:=⟨_,rfl,by omega⟩
       have KV:Hid _:=qc0 dM pq 0 0 Q0 (2*K) (by omega) (by omega) tQ.out (by omega) iw.out.2.2
       rw[Int.natAbs_natCast,hz] at KV
       rw[Nat.pow_zero,Nat.div_one] at hz
       rw[hz] at oQ
       clear hz
       go_wp2_with fail
       refine Calls.mono (P:=Tryz.prog) KV.out ?_
       rintro e gq ⟨rfl,Ah⟩
       have wz:=G.trans qD Ah
       have nk:Hid (NI w gq pq (Q0:Int)):=iw.out.G Ah
       clear Ah iw qD KV
       by_cases hz0:z=1
       case' pos=>
        subst hz0
        rw[if_pos (by simp)] at oQ
        go_wp2_with fail
        refine Calls.mono (P:=Tryz.prog) (q1p gq 1 (by omega)) ?_
        intro e l7 hni
        obtain⟨p1,rfl,oJ,Ag,tT,tX⟩:=hni
        have tY:=G.trans wz oJ
        have jb:=nk.out.G oJ
        have hne:p1≠pq:=by have:=nk.out.2.1;omega
        have hq1:Q0<2^(32*(2*K+1)):=Nat.lt_of_lt_of_le tQ.out (Nat.pow_le_pow_right (by omega) (by omega))
        have EZ:1<2^(32*(2*K+1)):=Nat.one_lt_two_pow (by omega)
        have HAD:Hid _:=q7h l7 pq 0 pq 0 p1 0 Q0 Q0 1 (2*K+1) (by omega) hq1 EZ jb.2.1 jb.2.1 tT jb.2.2 jb.2.2 tX
        have tZ:Hid (NI w l7 pq (Q0:Int)):=jb
        clear oJ nk jb hq1 EZ Ag tT tX wz
        go_wp2_with fail
        refine Calls.mono (P:=Tryz.prog) HAD.out ?_
        intro e uD hs
        obtain⟨rfl,uf,oK,-,-⟩:=SetTo.step tY tZ.out hs
        rw[show (Q0:Int)+1=((Q0+1:Nat):Int) from by omega,← oQ.out] at oK
        have oL:Hid (NI w uD pq ((q0v N D:Nat):Int)):=oK
        clear hs oK HAD tZ tY hne
        go_wp2_with fail
       case' neg=>
        obtain rfl:z=0:=by omega
        rw[if_neg (by simp)] at oQ
        go_wp2_with fail
        have oL:Hid (NI w gq pq ((q0v N D:Nat):Int)):=by rw[oQ.out,Nat.add_zero];exact nk.out
        have uf:=wz
        clear nk wz
      case' inr.inr=>
       rw[if_neg (by omega)] at oQ
       have oL:Hid (NI w dM pq ((q0v N D:Nat):Int)):=by rw[oQ.out,Nat.add_zero];exact iw.out
       have uf:=qD
       clear iw qD
       go_wp2_with fail
      all_goals as_aux_lemma=>
       have xz:q0v N D<2^(32*(2*K+1)):=by
        have h1:=oQ.out
        have h2:=tQ.out
        have h3:2^(32*(2*K))*2≤2^(32*(2*K+1)):=by rw[← Nat.pow_succ];exact Nat.pow_le_pow_right (by omega) (by omega)
        omega
       have Ai:=blen_le_iff.2 xz
       obtain⟨Q,hQ⟩:∃ Q,Q=q0v N D:=⟨_,rfl⟩
       rw[← hQ] at HQ oL xz Ai
       have DX:Hid _:=q2E _ pq 0 Q (2*K+1) (by omega) (by rw[Int.natAbs_natCast];exact xz) oL.out.2.2
       rw[Int.natAbs_natCast] at DX
       have KW:Hid (Q<2^(32*(2*K+1))):=xz
       obtain⟨LQ,KX⟩:∃ LQ,LQ=blen Q:=⟨_,rfl⟩
       rw[← KX] at DX Ai
       have Aj:Hid (LQ=blen Q):=KX
       have Tq:(LQ:Int)≤700000:=by omega
       clear hQ xz KX Ai oQ tQ
       refine Calls.mono (P:=Tryz.prog) DX.out ?_
       rintro e kT ⟨rfl,Ak⟩
       have Al:=G.trans uf Ak
       have l8:Hid (NI w kT pq (Q:Int)):=oL.out.G Ak
       clear Ak oL uf DX
       by_cases hb1:LQ≤m
       ·have KY:decide (LQ≤m)=true:=by simpa using hb1
        have HB1:Hid (LQ≤m):=hb1
        clear hb1
        go_wp2_with fail
        go_ret3
        exact⟨pq,Q,p,p,sgn==0,rfl,Al,l8.out,⟨Or.inl ⟨by rw[HQ.out,← Aj.out];exact HB1.out,HQ.out.symm,rfl⟩,by rw[HX.out];exact KS.out⟩,HAT.out⟩
       ·have KY:decide (LQ≤m)=false:=by simpa using hb1
        have HB1:Hid (¬ LQ≤m):=hb1
        have Am:Hid _:=q2E _ pq 0 Q (2*K+1) (by omega) (by rw[Int.natAbs_natCast];exact KW.out) l8.out.2.2
        rw[Int.natAbs_natCast,← Aj.out] at Am
        have ik:Q≠0:=by
         intro h0
         have:=Aj.out
         rw[h0] at this
         have h2:blen 0=0:=rfl
         omega
        have Tt:Hid (Q≠0):=ik
        clear hb1 ik
        go_wp2_with fail
        refine Calls.mono (P:=Tryz.prog) Am.out ?_
        rintro e w16 ⟨rfl,Ao⟩
        have Ap:=G.trans Al Ao
        have wB:Hid (NI w w16 pq (Q:Int)):=l8.out.G Ao
        clear Ao l8 Al Am
        have hnext:¬ q5K m Q→q2g A B m p0 (p+1)∧p=p0:=fun hs=>by
         rw[← HQ.out] at hs
         obtain⟨h1,h2⟩:=q7e ko.out HB0.out Bl.out HAT.out hs
         exact⟨h2,h1⟩
        have pM:Hid (¬ q5K m Q→q2g A B m p0 (p+1)∧p=p0):=hnext
        clear hnext
        by_cases hb2:LQ=m+1
        ·have KZ:((LQ:Int)==(m:Int)+1)=true:=by simp;omega
         have o6:Hid (LQ=m+1):=hb2
         have Om:Hid (Calls Tryz.prog 201 #[.pointer (some ⟨pq,0,none⟩)] w16 (qbS w16 Q)):=qch w16 pq 0 Q (2*K+1) (by omega) (by rw[Int.natAbs_natCast];exact KW.out) (by rw[Int.natAbs_natCast];exact Tt.out) wB.out.2.1 wB.out.2.2
         have Uw:IntKind.u64.wrap (m:Int)=m:=by rw[IntKind.wrap_u64];omega
         clear hb2
         go_wp2_with fail
         refine Calls.mono (P:=Tryz.prog) Om.out ?_
         intro e vG htz
         obtain⟨k,rfl,hk,Aq⟩:=htz
         have Ar:=G.trans Ap Aq
         have uh:Hid (NI w vG pq (Q:Int)):=wB.out.G Aq
         have Gq:Hid (q1X Q k):=hk
         clear Aq wB Ap Om hk
         by_cases F5:m≤k
         ·have L6:decide (m≤k)=true:=by simpa using F5
          have Oo:Q%2^m=0:=by
           obtain⟨h1,-⟩:=Gq.out
           exact Nat.mod_eq_zero_of_dvd (Nat.dvd_trans (Nat.pow_dvd_pow 2 F5) (Nat.dvd_of_mod_eq_zero h1))
          have Tu:Hid (Q%2^m=0):=Oo
          have BS:Hid (Calls Tryz.prog 202 #[.pointer (some ⟨pq,0,none⟩),.pointer (some ⟨pq,0,none⟩),.int .u64 ((1:Nat):Int)] vG (SetTo vG pq 0 ((Q/2^1:Nat):Int))):=
           qbV vG pq 0 pq 0 1 Q Q (2*K+1) (by omega) (by omega) (by rw[Int.natAbs_natCast];exact KW.out) (by omega) uh.out.2.1 uh.out.2.2 uh.out.2.2
          clear F5 Oo
          go_wp2_with fail
          refine Calls.mono (P:=Tryz.prog) BS.out ?_
          intro e Tv hs
          obtain⟨rfl,L8,F6,-,-⟩:=SetTo.step Ar uh.out hs
          have L9:Hid (NI w Tv pq ((Q/2^1:Nat):Int)):=F6
          clear hs F6 uh Ar BS
          go_wp2_with fail
          go_ret3
          exact⟨pq,Q/2^1,p+1,p,sgn==0,rfl,L8,L9.out,⟨Or.inr ⟨by rw[HQ.out,← Aj.out];exact o6.out,by rw[HQ.out];exact Tu.out,by rw[HQ.out,Nat.pow_one],rfl⟩,by rw[HX.out];exact KS.out⟩,HAT.out⟩
         ·have L6:decide (m≤k)=false:=by simpa using F5
          have hns:¬ q5K m Q:=by
           rintro(h|⟨-,h⟩)
           ·exact HB1.out (by rw[Aj.out];exact h)
           ·obtain⟨h1,h2⟩:=Gq.out
            have h3:2^(k+1)∣Q:=Nat.dvd_trans (Nat.pow_dvd_pow 2 (by omega)) (Nat.dvd_of_mod_eq_zero h)
            have h4:Q%2^(k+1)=0:=Nat.mod_eq_zero_of_dvd h3
            rw[Nat.pow_succ,Nat.mod_mul,h1,h2] at h4
            have:=Nat.two_pow_pos k
            omega
          obtain⟨ui,Au⟩:=pM.out hns
          have Av:Hid (q2g A B m p0 (p+1)):=ui
          have hle1:p0≤p+1:=by omega
          have hle2:p+1≤p0+1:=by omega
          have La:Hid ((p0+2-(p+1)).toNat<(p0+2-p).toNat):=by show (p0+2-(p+1)).toNat<(p0+2-p).toNat;omega
          clear hns ui F5 Au
          go_wp2_with fail
          go_roundw
          case rel=>exact⟨p+1,by go_num,Av.out,hle1,hle2,Ar⟩
          case measure=>have h1:=KG.out;have h2:(p0+2-(p+1)).toNat<(p0+2-p).toNat:=La.out;simp only[intOf];omega
        ·have KZ:((LQ:Int)==(m:Int)+1)=false:=by simp;omega
         have hns:¬ q5K m Q:=by
          rintro(h|⟨h,-⟩)
          ·exact HB1.out (by rw[Aj.out];exact h)
          ·exact hb2 (by rw[Aj.out];exact h)
         obtain⟨ui,Au⟩:=pM.out hns
         have Av:Hid (q2g A B m p0 (p+1)):=ui
         have hle1:p0≤p+1:=by omega
         have hle2:p+1≤p0+1:=by omega
         have La:Hid ((p0+2-(p+1)).toNat<(p0+2-p).toNat):=by show (p0+2-(p+1)).toNat<(p0+2-p).toNat;omega
         clear hns ui hb2 Au
         go_wp2_with fail
         go_roundw
         case rel=>exact⟨p+1,by go_num,Av.out,hle1,hle2,Ap⟩
         case measure=>have h1:=KG.out;have h2:(p0+2-(p+1)).toNat<(p0+2-p).toNat:=La.out;simp only[intOf];omega
end Go.Proofs.YtemmkninoiclfaaGreatDoor
