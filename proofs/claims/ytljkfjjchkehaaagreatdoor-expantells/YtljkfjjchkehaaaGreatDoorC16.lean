/- What is proved here: contracts of the reference's big numbers: near, over this seat's translation. -/
import Derived.Test.YtljkfjjchkehaaaGreatDoorC15
import Derived.OwnWalk
namespace Go.Proofs.YtljkfjjchkehaaaGreatDoor
open Go.ChangeShapes Go.WideShapes Go.ChangeAt Go.RowKit
open BN
def qau (w:World) (A B m:Nat) (p0:Int) (e:Ending) (w':World):Prop:=
 ∃ (q v:Nat) (P p:Int) (x:Bool),e= .returned (.tuple #[.pointer (some ⟨q,0,none⟩),.int .i64 P,.bool x])∧G w w'∧NI w w' q (v:Int)∧q5J A B m p v P x∧q25 A B m p0 p
set_option maxRecDepth 10000 in
set_option maxHeartbeats 4000000 in
theorem qc7 (w:World) (ba oa bb ob A B m K:Nat) (low:Int) (hK:K≤10000) (hK1:100≤K) (hA0:A≠0) (hB0:B≠0) (hA2:A<2^(32*K)) (hB2:B<2^(32*K)) (hm1:1≤m) (hm:m≤64) (hlow: -2000≤low) (hlow2:low≤2000)
  (hba:ba<w.heap.size) (hbb:bb<w.heap.size) (ha:IntIs w ba oa (A:Int)) (hb:IntIs w bb ob (B:Int)):
  Calls Tryz.prog 84 #[.pointer (some ⟨ba,oa,none⟩),.pointer (some ⟨bb,ob,none⟩),.int .i64 (m:Int),.int .i64 low] w (qau w A B m (q1j A B m low)):=by
 have hla:=blen_le_iff.2 hA2
 have hlb:=blen_le_iff.2 hB2
 have HLA:Hid (∀ w1,G w w1→_):=fun w1 g=>q2j w1 ba oa A K (by omega) hA2 (ha.G hba g)
 have HLB:Hid (∀ w1,G w w1→_):=fun w1 g=>q2j w1 bb ob B K (by omega) hB2 (hb.G hbb g)
 rw[Int.natAbs_natCast] at HLA HLB
 have HSA:Hid (∀ w0 w1 p,G w w1→NI w0 w1 p 0→_):=fun w0 w1 p g h=>q8I w1 p 0 ba oa 0 A K (by omega) hA2 h.2.1 (G.lt g hba) h.2.2 (ha.G hba g)
 have HSB:Hid (∀ w0 w1 p,G w w1→NI w0 w1 p 0→_):=fun w0 w1 p g h=>q8I w1 p 0 bb ob 0 B K (by omega) hB2 h.2.1 (G.lt g hbb) h.2.2 (hb.G hbb g)
 have hm64:(m:Int)≤64:=by omega
 have hLAb:(blen A:Int)≤320000:=by omega
 have hLBb:(blen B:Int)≤320000:=by omega
 have HA0:Hid (A≠0):=hA0
 have HB0:Hid (B≠0):=hB0
 have HA2:Hid _:=hA2
 have HB2:Hid _:=hB2
 by_cases hpl:(blen A:Int)-blen B-m<low
 case' pos=>
  obtain⟨p0,hp0⟩:∃ p0,p0=q1j A B m low:=⟨_,rfl⟩
  have HP0:Hid _:=hp0
  have hp0':=hp0
  unfold q1j at hp0'
  rw[if_pos hpl] at hp0'
  rw[← hp0]
  have hp1: -(32*(K:Int))≤p0:=by omega
  have hp2:p0+1≤32*(K:Int):=by omega
  have hpd:decide ((blen A:Int)-blen B-m<low)=true:=by simpa using hpl
  generalize blen A=LA at *
  generalize blen B=LB at *
  subst hp0'
  clear hA0 hB0 hA2 hB2 hp0 ha hb hpl hla hlb
 case' neg=>
  obtain⟨p0,hp0⟩:∃ p0,p0=q1j A B m low:=⟨_,rfl⟩
  have HP0:Hid _:=hp0
  have hp0':=hp0
  unfold q1j at hp0'
  rw[if_neg hpl] at hp0'
  rw[← hp0]
  have hp1: -(32*(K:Int))≤p0:=by omega
  have hp2:p0+1≤32*(K:Int):=by omega
  have hpd:decide ((blen A:Int)-blen B-m<low)=false:=by simpa using hpl
  rw[← hp0'] at hpd
  generalize blen A=LA at *
  generalize blen B=LB at *
  have hpe:(LA:Int)-LB-m=p0:=hp0'.symm
  clear hA0 hB0 hA2 hB2 hp0 ha hb hpl hla hlb hp0'
 all_goals
  go_enter Tryz.func84,Tryz.ntmps84
  go_wp2_with fail
  refine Calls.mono (P:=Tryz.prog) (HLA.out w (G.refl _)) ?_
  rintro e w1 ⟨rfl,hg1⟩
  go_wp2_with fail
  refine Calls.mono (P:=Tryz.prog) (HLB.out w1 hg1) ?_
  rintro e w2 ⟨rfl,hg2⟩
  have hG2:=G.trans hg1 hg2
  go_wp2_with fail
  clear hg1 hg2 HLA HLB hpd
  go_loopw [11] (fun vp wr=>∃ p:Int,vp= .int .i64 p∧q25 A B m p0 p∧p0≤p∧p≤p0+1∧G w wr) (fun vp _=>(p0+2-intOf vp).toNat)
  case atStart=>exact⟨p0,rfl,Or.inl rfl,Int.le_refl _,by omega,hG2⟩
  case round=>
   obtain⟨p,rfl,hat,hpa,hpb,hG⟩:=hrel
   have HAT:Hid (q25 A B m p0 p):=hat
   have hpi1: -320000≤p:=by omega
   have hpi2:p≤320000:=by omega
   clear hat hG2
   as_aux_lemma=>
    go_wp2_with fail
    have hn0:=NI.new hG 38
    have hGa:=G.trans hG ((G.refl wr).alloc (.cells #[.bool false,.slice none 0 0] 38))
    refine Calls.mono (P:=Tryz.prog) (HSA.out w _ _ hGa hn0) ?_
    intro e w3 hs
    obtain⟨rfl,hG3,hN3,-,-⟩:=SetTo.step hGa hn0 hs
    clear hs hn0 hGa
    generalize wr.heap.size=pn at *
    clear hG
    go_wp2_with fail
    have hn0:=NI.new hG3 38
    have hN4:=hN3.G ((G.refl w3).alloc (.cells #[.bool false,.slice none 0 0] 38))
    have hGa:=G.trans hG3 ((G.refl w3).alloc (.cells #[.bool false,.slice none 0 0] 38))
    have hne:w3.heap.size≠pn:=by have:=hN3.2.1;omega
    refine Calls.mono (P:=Tryz.prog) (HSB.out w _ _ hGa hn0) ?_
    intro e w4 hs
    obtain⟨rfl,hG4,hD4,-,hkp⟩:=SetTo.step hGa hn0 hs
    have HN4:Hid (NI w w4 pn A):=hkp pn A hne.symm hN4
    have HD4:Hid (NI w w4 w3.heap.size B):=hD4
    clear hs hn0 hGa hkp hN4 hN3 hG3 hD4
    generalize w3.heap.size=pd at *
    have HAB:Hid (upP A p<2^(32*(2*K))∧loP B p<2^(32*(2*K))∧loP B p≠0):=⟨qbj HA2.out (by omega),qbc HB2.out (by omega),Nat.pos_iff_ne_zero.1 (q2G HB0.out)⟩
    by_cases hpp:0≤p
    case' pos=>
     obtain⟨k,rfl⟩:∃ k:Nat,p=k:=Int.eq_ofNat_of_zero_le hpp
     have HL:Hid (Calls Tryz.prog 113 #[.pointer (some ⟨pd,0,none⟩),.pointer (some ⟨pd,0,none⟩),.int .u64 (k:Int)] w4 (SetTo w4 pd 0 ((B:Int)*2^k))):=
      q2p w4 pd 0 pd 0 k B B K (by omega) (by omega) HB2.out HD4.out.2.1 HD4.out.2.1 HD4.out.2.2 HD4.out.2.2
     have hEq:(B:Int)*2^k=((loP B k:Nat):Int):=by unfold loP;push_cast;rfl
     have hEq2:(A:Int)=((upP A k:Nat):Int):=by unfold upP;rw[show (-(k:Int)).toNat=0 from by omega];simp
     rw[hEq] at HL
     have HE2:Hid _:=hEq2
     clear hEq hEq2
     go_wp2_with fail
     refine Calls.mono (P:=Tryz.prog) HL.out ?_
     intro e w5 hs
     obtain⟨rfl,hG5,hD5,-,hkp⟩:=SetTo.step hG4 HD4.out hs
     have hN5:=hkp pn A hne.symm HN4.out
     rw[HE2.out] at hN5
     have HN5:Hid (NI w w5 pn (upP A (k:Int):Nat)):=hN5
     have HD5:Hid (NI w w5 pd (loP B (k:Int):Nat)):=hD5
     clear hs hkp hD5 hN5 HE2 HL HN4 HD4 hG4
     obtain⟨p,hp⟩:∃ p:Int,p=(k:Int):=⟨_,rfl⟩
     rw[← hp] at HN5 HD5 hpp hpa hpb hpi1 hpi2 HAB HAT ⊢
     have HPK:Hid _:=hp
     clear hp hpp
    case' neg=>
     obtain⟨k,hk⟩:∃ k:Nat,p= -(k:Int):=⟨(-p).toNat,by omega⟩
     have hpp0:decide (0≤p)=false:=by simpa using hpp
     subst hk
     have HL:Hid (Calls Tryz.prog 113 #[.pointer (some ⟨pn,0,none⟩),.pointer (some ⟨pn,0,none⟩),.int .u64 (k:Int)] w4 (SetTo w4 pn 0 ((A:Int)*2^k))):=
      q2p w4 pn 0 pn 0 k A A K (by omega) (by omega) HA2.out HN4.out.2.1 HN4.out.2.1 HN4.out.2.2 HN4.out.2.2
     have hEq:(A:Int)*2^k=((upP A (-(k:Int)):Nat):Int):=by unfold upP;rw[show (-(-(k:Int))).toNat=k from by omega];push_cast;rfl
     have hEq2:(B:Int)=((loP B (-(k:Int)):Nat):Int):=by unfold loP;rw[show (-(k:Int)).toNat=0 from by omega];simp
     rw[hEq] at HL
     have HE2:Hid _:=hEq2
     clear hEq hEq2
     go_wp2_with fail
     refine Calls.mono (P:=Tryz.prog) HL.out ?_
     intro e w5 hs
     obtain⟨rfl,hG5,hN5,-,hkp⟩:=SetTo.step hG4 HN4.out hs
     have hD5:=hkp pd B hne HD4.out
     rw[HE2.out] at hD5
     have HN5:Hid (NI w w5 pn (upP A (-(k:Int)):Nat)):=hN5
     have HD5:Hid (NI w w5 pd (loP B (-(k:Int)):Nat)):=hD5
     clear hs hkp hD5 hN5 HE2 HL HN4 HD4 hG4 hpp0
     obtain⟨p,hp⟩:∃ p:Int,p= -(k:Int):=⟨_,rfl⟩
     rw[← hp] at HN5 HD5 hpp hpa hpb hpi1 hpi2 HAB HAT ⊢
     have HPK:Hid _:=hp
     clear hp hpp
    all_goals
     as_aux_lemma=>
      obtain⟨N,hN⟩:∃ N,N=upP A p:=⟨_,rfl⟩
      obtain⟨D,hD⟩:∃ D,D=loP B p:=⟨_,rfl⟩
      rw[← hN] at HN5 HAB
      rw[← hD] at HD5 HAB
      have HQ:Hid (q1u A B p=q0t N D):=by show q1u A B p=q0t N D;rw[hN,hD];rfl
      have HX:Hid (decide (upP A p%loP B p=0)=decide (N%D=0)):=by rw[hN,hD];exact rfl
      clear hN hD HSA HSB
      go_wp2_with fail
      have ha1:=(G.refl w5).alloc (.cells #[.bool false,.slice none 0 0] 38)
      have ha2:=ha1.alloc (.cells #[.bool false,.slice none 0 0] 38)
      have hq0:=(NI.new (G.trans hG5 (G.refl w5)) 38).G ((G.refl (w5.alloc (.cells #[.bool false,.slice none 0 0] 38))).alloc (.cells #[.bool false,.slice none 0 0] 38))
      have hr0:=NI.new (G.trans hG5 ha1) 38
      rw[show (w5.alloc (.cells #[.bool false,.slice none 0 0] 38)).heap.size=w5.heap.size+1 from by simp] at hr0
      have hN6:=HN5.out.G ha2
      have hD6:=HD5.out.G ha2
      have hpn:=HN5.out.2.1
      have hpd:=HD5.out.2.1
      have hG6:=G.trans hG5 ha2
      obtain⟨pr,hpr⟩:∃ pr,pr=w5.heap.size+1:=⟨_,rfl⟩
      rw[← hpr] at hr0 ⊢
      generalize hpq:w5.heap.size=pq at *
      generalize (w5.alloc (.cells #[.bool false,.slice none 0 0] 38)).alloc (.cells #[.bool false,.slice none 0 0] 38)=w6 at *
      have hqr:pr≠pq:=by omega
      have hnq:pn≠pq:=by omega
      have hdq:pd≠pq:=by omega
      have hnr:pn≠pr:=by omega
      have hdr:pd≠pr:=by omega
      refine Calls.mono (P:=Tryz.prog) (q8s w6 pq 0 pn 0 pd 0 pr 0 0 0 N D (2*K) (by omega) HAB.out.1 HAB.out.2.1 (by have:=HAB.out.2.2;omega) hq0.2.1 hr0.2.1 hN6.2.1 hD6.2.1 hq0.2.2 hr0.2.2 (Or.inl hqr) hN6.2.2 hD6.2.2) ?_
      intro e w8 hqr8
      obtain⟨rfl,w7,e1,e2,hs7,hs8⟩:=hqr8
      obtain⟨-,hG7,hQ7,-,hk7⟩:=SetTo.step hG6 hq0 hs7
      have hR7:=hk7 pr 0 hqr hr0
      have hD7:=hk7 pd D hdq hD6
      obtain⟨-,hG8,hR8,-,hk8⟩:=SetTo.step hG7 hR7 hs8
      have hQ8:=hk8 pq _ hqr.symm hQ7
      have hD8:=hk8 pd _ hdr hD7
      rw[show Int.tdiv (N:Int) D=((N/D:Nat):Int) from rfl] at hQ8
      rw[show Int.tmod (N:Int) D=((N%D:Nat):Int) from rfl] at hR8
      have HQ8:Hid (NI w w8 pq ((N/D:Nat):Int)):=hQ8
      have HR8:Hid (NI w w8 pr ((N%D:Nat):Int)):=hR8
      have HD8:Hid (NI w w8 pd (D:Int)):=hD8
      clear hs7 hs8 hk7 hk8 hQ7 hR7 hD7 hQ8 hR8 hD8 hG7 hq0 hr0 hN6 hD6 ha1 ha2 hG6 HN5 HD5 hG5 hpq hpr hpn hpd hnq hnr hdq
      go_wp2_with fail
      have HSg:Hid _:=q86 w8 pr 0 _ HR8.out.2.2
      have HXX:Hid ((((N%D:Nat):Int).sign==0)=decide (N%D=0)):=by
       show (((N%D:Nat):Int).sign==0)=decide (N%D=0)
       generalize N%D=z
       by_cases hz:z=0
       ·subst hz;rfl
       ·have:(z:Int).sign=1:=Int.sign_eq_one_of_pos (by omega)
        rw[this];simp [hz]
      obtain⟨sgn,hsgn⟩:∃ sgn,sgn=((N%D:Nat):Int).sign:=⟨_,rfl⟩
      rw[← hsgn] at HSg HXX
      clear hsgn
      have hmd:N%D≤N:=Nat.mod_le _ _
      have hmd2:N%D*2<2^(32*(2*K+1)):=by
       have h1:=HAB.out.1
       have h2:2^(32*(2*K))*2≤2^(32*(2*K+1)):=by rw[← Nat.pow_succ];exact Nat.pow_le_pow_right (by omega) (by omega)
       omega
      have hD2:D<2^(32*(2*K+1)):=Nat.lt_of_lt_of_le HAB.out.2.1 (Nat.pow_le_pow_right (by omega) (by omega))
      have HMD2:Hid (N%D*2<2^(32*(2*K+1))):=hmd2
      have HMD:Hid (N%D<2^(32*(2*K))):=Nat.lt_of_le_of_lt hmd HAB.out.1
      have HDD:Hid (D<2^(32*(2*K+1))):=hD2
      clear hmd hmd2 hD2
      refine Calls.mono (P:=Tryz.prog) HSg.out ?_
      rintro e w9 ⟨rfl,hg9⟩
      have hG9:=G.trans hG8 hg9
      have HQ9:Hid (NI w w9 pq ((N/D:Nat):Int)):=HQ8.out.G hg9
      have HR9:Hid (NI w w9 pr ((N%D:Nat):Int)):=HR8.out.G hg9
      have HD9:Hid (NI w w9 pd (D:Int)):=HD8.out.G hg9
      clear hg9 HQ8 HR8 HD8 HSg hG8
      go_wp2_with fail
      have hc0:=NI.new hG9 38
      have ha1:=(G.refl w9).alloc (.cells #[.bool false,.slice none 0 0] 38)
      have hR10:=HR9.out.G ha1
      have hQ10:=HQ9.out.G ha1
      have hD10:=HD9.out.G ha1
      have hGa:=G.trans hG9 ha1
      have hcq:pq≠w9.heap.size:=by have:=HQ9.out.2.1;omega
      have hcr:pr≠w9.heap.size:=by have:=HR9.out.2.1;omega
      have hcd:pd≠w9.heap.size:=by have:=HD9.out.2.1;omega
      generalize w9.heap.size=pc at *
      refine Calls.mono (P:=Tryz.prog) (q2p _ pc 0 pr 0 1 0 _ (2*K) (by omega) (by omega) (by rw[Int.natAbs_natCast];exact HMD.out) hc0.2.1 hR10.2.1 hc0.2.2 hR10.2.2) ?_
      intro e w10 hs
      obtain⟨rfl,hG10,hC10,-,hk10⟩:=SetTo.step hGa hc0 hs
      have hQ11:=hk10 pq _ hcq hQ10
      have hD11:=hk10 pd _ hcd hD10
      rw[show ((N%D:Nat):Int)*2^1=((N%D*2:Nat):Int) from by push_cast;rfl] at hC10
      have HCm:Hid _:=q5X w10 pc 0 pd 0 _ _ (2*K+1) (by omega) (by rw[Int.natAbs_natCast];exact HMD2.out) (by rw[Int.natAbs_natCast];exact HDD.out) hC10.2.1 hD11.2.1 hC10.2.2 hD11.2.2
      have HQ11:Hid (NI w w10 pq ((N/D:Nat):Int)):=hQ11
      clear hs hk10 hQ11 hD11 hC10 hQ10 hD10 hR10 hGa ha1 hc0 HQ9 HR9 HD9 hG9
      go_wp2_with fail
      refine Calls.mono (P:=Tryz.prog) HCm.out ?_
      rintro e w11 ⟨rfl,hg11⟩
      have hG11:=G.trans hG10 hg11
      have HQ12:Hid (NI w w11 pq ((N/D:Nat):Int)):=HQ11.out.G hg11
      clear hg11 HQ11 HCm hG10 HMD HMD2 HDD
      have HRQ:Hid (q0t N D=N/D+(if 0<cmpI ((N%D*2:Nat):Int) (D:Int)∨(cmpI ((N%D*2:Nat):Int) (D:Int)=0∧N/D%2=1) then 1 else 0)):=q7O
      have hcv:cmpI ((N%D*2:Nat):Int) (D:Int)=1∨cmpI ((N%D*2:Nat):Int) (D:Int)=0∨cmpI ((N%D*2:Nat):Int) (D:Int)= -1:=by unfold cmpI;split<;>(try split)<;>simp
      have hNDb:N/D<2^(32*(2*K)):=Nat.lt_of_le_of_lt (Nat.div_le_self _ _) HAB.out.1
      have HNDB:Hid (N/D<2^(32*(2*K))):=hNDb
      generalize cmpI ((N%D*2:Nat):Int) (D:Int)=cv at *
      generalize N/D=Q0 at *
      clear hNDb
      rcases hcv with rfl|rfl|rfl
      case' inl=>
       rw[if_pos (by omega)] at HRQ
       go_wp2_with fail
       refine Calls.mono (P:=Tryz.prog) (q2v w11 1 (by omega)) ?_
       intro e w13 hni
       obtain⟨p1,rfl,hg13,hp1a,hp1b,hp1i⟩:=hni
       have hG13:=G.trans hG11 hg13
       have hQ13:=HQ12.out.G hg13
       have hne:p1≠pq:=by have:=HQ12.out.2.1;omega
       have hq1:Q0<2^(32*(2*K+1)):=Nat.lt_of_lt_of_le HNDB.out (Nat.pow_le_pow_right (by omega) (by omega))
       have h1q:1<2^(32*(2*K+1)):=Nat.one_lt_two_pow (by omega)
       have HAD:Hid _:=q7g w13 pq 0 pq 0 p1 0 Q0 Q0 1 (2*K+1) (by omega) hq1 h1q hQ13.2.1 hQ13.2.1 hp1b hQ13.2.2 hQ13.2.2 hp1i
       have HQ13:Hid (NI w w13 pq (Q0:Int)):=hQ13
       clear hg13 HQ12 hQ13 hq1 h1q hp1a hp1b hp1i hG11
       go_wp2_with fail
       refine Calls.mono (P:=Tryz.prog) HAD.out ?_
       intro e w14 hs
       obtain⟨rfl,hG14,hQ14,-,-⟩:=SetTo.step hG13 HQ13.out hs
       rw[show (Q0:Int)+1=((Q0+1:Nat):Int) from by omega,← HRQ.out] at hQ14
       have HQ14:Hid (NI w w14 pq ((q0t N D:Nat):Int)):=hQ14
       clear hs hQ14 HAD HQ13 hG13 hne
       go_wp2_with fail
      case' inr.inl=>
       obtain⟨z,hz,hz1⟩:∃ z:Nat,Q0/2^0%2=z∧z≤1:=⟨_,rfl,by omega⟩
       have HBt:Hid _:=qbu w11 pq 0 0 Q0 (2*K) (by omega) (by omega) HNDB.out (by omega) HQ12.out.2.2
       rw[Int.natAbs_natCast,hz] at HBt
       rw[Nat.pow_zero,Nat.div_one] at hz
       rw[hz] at HRQ
       clear hz
       go_wp2_with fail
       refine Calls.mono (P:=Tryz.prog) HBt.out ?_
       rintro e w12 ⟨rfl,hg12⟩
       have hG12:=G.trans hG11 hg12
       have HQ13b:Hid (NI w w12 pq (Q0:Int)):=HQ12.out.G hg12
       clear hg12 HQ12 hG11 HBt
       by_cases hz0:z=1
       case' pos=>
        subst hz0
        rw[if_pos (by simp)] at HRQ
        go_wp2_with fail
        refine Calls.mono (P:=Tryz.prog) (q2v w12 1 (by omega)) ?_
        intro e w13 hni
        obtain⟨p1,rfl,hg13,hp1a,hp1b,hp1i⟩:=hni
        have hG13:=G.trans hG12 hg13
        have hQ13:=HQ13b.out.G hg13
        have hne:p1≠pq:=by have:=HQ13b.out.2.1;omega
        have hq1:Q0<2^(32*(2*K+1)):=Nat.lt_of_lt_of_le HNDB.out (Nat.pow_le_pow_right (by omega) (by omega))
        have h1q:1<2^(32*(2*K+1)):=Nat.one_lt_two_pow (by omega)
        have HAD:Hid _:=q7g w13 pq 0 pq 0 p1 0 Q0 Q0 1 (2*K+1) (by omega) hq1 h1q hQ13.2.1 hQ13.2.1 hp1b hQ13.2.2 hQ13.2.2 hp1i
        have HQ13:Hid (NI w w13 pq (Q0:Int)):=hQ13
        clear hg13 HQ13b hQ13 hq1 h1q hp1a hp1b hp1i hG12
        go_wp2_with fail
        refine Calls.mono (P:=Tryz.prog) HAD.out ?_
        intro e w14 hs
        obtain⟨rfl,hG14,hQ14,-,-⟩:=SetTo.step hG13 HQ13.out hs
        rw[show (Q0:Int)+1=((Q0+1:Nat):Int) from by omega,← HRQ.out] at hQ14
        have HQ14:Hid (NI w w14 pq ((q0t N D:Nat):Int)):=hQ14
        clear hs hQ14 HAD HQ13 hG13 hne
        go_wp2_with fail
       case' neg=>
        obtain rfl:z=0:=by omega
        rw[if_neg (by simp)] at HRQ
        go_wp2_with fail
        have HQ14:Hid (NI w w12 pq ((q0t N D:Nat):Int)):=by rw[HRQ.out,Nat.add_zero];exact HQ13b.out
        have hG14:=hG12
        clear HQ13b hG12
      case' inr.inr=>
       rw[if_neg (by omega)] at HRQ
       have HQ14:Hid (NI w w11 pq ((q0t N D:Nat):Int)):=by rw[HRQ.out,Nat.add_zero];exact HQ12.out
       have hG14:=hG11
       clear HQ12 hG11
       go_wp2_with fail
      all_goals as_aux_lemma=>
       have hQb:q0t N D<2^(32*(2*K+1)):=by
        have h1:=HRQ.out
        have h2:=HNDB.out
        have h3:2^(32*(2*K))*2≤2^(32*(2*K+1)):=by rw[← Nat.pow_succ];exact Nat.pow_le_pow_right (by omega) (by omega)
        omega
       have hblb:=blen_le_iff.2 hQb
       obtain⟨Q,hQ⟩:∃ Q,Q=q0t N D:=⟨_,rfl⟩
       rw[← hQ] at HQ HQ14 hQb hblb
       have HBL:Hid _:=q2j _ pq 0 Q (2*K+1) (by omega) (by rw[Int.natAbs_natCast];exact hQb) HQ14.out.2.2
       rw[Int.natAbs_natCast] at HBL
       have HQB:Hid (Q<2^(32*(2*K+1))):=hQb
       obtain⟨LQ,hLQ⟩:∃ LQ,LQ=blen Q:=⟨_,rfl⟩
       rw[← hLQ] at HBL hblb
       have HLQ:Hid (LQ=blen Q):=hLQ
       have hLQb:(LQ:Int)≤700000:=by omega
       clear hQ hQb hLQ hblb HRQ HNDB
       refine Calls.mono (P:=Tryz.prog) HBL.out ?_
       rintro e w15 ⟨rfl,hg15⟩
       have hG15:=G.trans hG14 hg15
       have HQ15:Hid (NI w w15 pq (Q:Int)):=HQ14.out.G hg15
       clear hg15 HQ14 hG14 HBL
       by_cases hb1:LQ≤m
       ·have hb10:decide (LQ≤m)=true:=by simpa using hb1
        have HB1:Hid (LQ≤m):=hb1
        clear hb1
        go_wp2_with fail
        go_ret3
        exact⟨pq,Q,p,p,sgn==0,rfl,hG15,HQ15.out,⟨Or.inl ⟨by rw[HQ.out,← HLQ.out];exact HB1.out,HQ.out.symm,rfl⟩,by rw[HX.out];exact HXX.out⟩,HAT.out⟩
       ·have hb10:decide (LQ≤m)=false:=by simpa using hb1
        have HB1:Hid (¬ LQ≤m):=hb1
        have HBL2:Hid _:=q2j _ pq 0 Q (2*K+1) (by omega) (by rw[Int.natAbs_natCast];exact HQB.out) HQ15.out.2.2
        rw[Int.natAbs_natCast,← HLQ.out] at HBL2
        have hQ0:Q≠0:=by
         intro h0
         have:=HLQ.out
         rw[h0] at this
         have h2:blen 0=0:=rfl
         omega
        have HQ0:Hid (Q≠0):=hQ0
        clear hb1 hQ0
        go_wp2_with fail
        refine Calls.mono (P:=Tryz.prog) HBL2.out ?_
        rintro e w16 ⟨rfl,hg16⟩
        have hG16:=G.trans hG15 hg16
        have HQ16:Hid (NI w w16 pq (Q:Int)):=HQ15.out.G hg16
        clear hg16 HQ15 hG15 HBL2
        have hnext:¬ q5A m Q→q25 A B m p0 (p+1)∧p=p0:=fun hs=>by
         rw[← HQ.out] at hs
         obtain⟨h1,h2⟩:=q7P HA0.out HB0.out HP0.out HAT.out hs
         exact⟨h2,h1⟩
        have HNX:Hid (¬ q5A m Q→q25 A B m p0 (p+1)∧p=p0):=hnext
        clear hnext
        by_cases hb2:LQ=m+1
        ·have hb20:((LQ:Int)==(m:Int)+1)=true:=by simp;omega
         have HB2':Hid (LQ=m+1):=hb2
         have HTZ:Hid (Calls Tryz.prog 127 #[.pointer (some ⟨pq,0,none⟩)] w16 (qaU w16 Q)):=qcc w16 pq 0 Q (2*K+1) (by omega) (by rw[Int.natAbs_natCast];exact HQB.out) (by rw[Int.natAbs_natCast];exact HQ0.out) HQ16.out.2.1 HQ16.out.2.2
         have hwm:IntKind.u64.wrap (m:Int)=m:=by rw[IntKind.wrap_u64];omega
         clear hb2
         go_wp2_with fail
         refine Calls.mono (P:=Tryz.prog) HTZ.out ?_
         intro e w17 htz
         obtain⟨k,rfl,hk,hg17⟩:=htz
         have hG17:=G.trans hG16 hg17
         have HQ17:Hid (NI w w17 pq (Q:Int)):=HQ16.out.G hg17
         have HTK:Hid (q2h Q k):=hk
         clear hg17 HQ16 hG16 HTZ hk
         by_cases hkm:m≤k
         ·have hkm0:decide (m≤k)=true:=by simpa using hkm
          have hQm:Q%2^m=0:=by
           obtain⟨h1,-⟩:=HTK.out
           exact Nat.mod_eq_zero_of_dvd (Nat.dvd_trans (Nat.pow_dvd_pow 2 hkm) (Nat.dvd_of_mod_eq_zero h1))
          have HQM:Hid (Q%2^m=0):=hQm
          have HRS:Hid (Calls Tryz.prog 128 #[.pointer (some ⟨pq,0,none⟩),.pointer (some ⟨pq,0,none⟩),.int .u64 ((1:Nat):Int)] w17 (SetTo w17 pq 0 ((Q/2^1:Nat):Int))):=
           qbC w17 pq 0 pq 0 1 Q Q (2*K+1) (by omega) (by omega) (by rw[Int.natAbs_natCast];exact HQB.out) (by omega) HQ17.out.2.1 HQ17.out.2.2 HQ17.out.2.2
          clear hkm hQm
          go_wp2_with fail
          refine Calls.mono (P:=Tryz.prog) HRS.out ?_
          intro e w18 hs
          obtain⟨rfl,hG18,hQ18,-,-⟩:=SetTo.step hG17 HQ17.out hs
          have HQ18:Hid (NI w w18 pq ((Q/2^1:Nat):Int)):=hQ18
          clear hs hQ18 HQ17 hG17 HRS
          go_wp2_with fail
          go_ret3
          exact⟨pq,Q/2^1,p+1,p,sgn==0,rfl,hG18,HQ18.out,⟨Or.inr ⟨by rw[HQ.out,← HLQ.out];exact HB2'.out,by rw[HQ.out];exact HQM.out,by rw[HQ.out,Nat.pow_one],rfl⟩,by rw[HX.out];exact HXX.out⟩,HAT.out⟩
         ·have hkm0:decide (m≤k)=false:=by simpa using hkm
          have hns:¬ q5A m Q:=by
           rintro(h|⟨-,h⟩)
           ·exact HB1.out (by rw[HLQ.out];exact h)
           ·obtain⟨h1,h2⟩:=HTK.out
            have h3:2^(k+1)∣Q:=Nat.dvd_trans (Nat.pow_dvd_pow 2 (by omega)) (Nat.dvd_of_mod_eq_zero h)
            have h4:Q%2^(k+1)=0:=Nat.mod_eq_zero_of_dvd h3
            rw[Nat.pow_succ,Nat.mod_mul,h1,h2] at h4
            have:=Nat.two_pow_pos k
            omega
          obtain⟨hat2,hpp2⟩:=HNX.out hns
          have HAT2:Hid (q25 A B m p0 (p+1)):=hat2
          have hle1:p0≤p+1:=by omega
          have hle2:p+1≤p0+1:=by omega
          have HME:Hid ((p0+2-(p+1)).toNat<(p0+2-p).toNat):=by show (p0+2-(p+1)).toNat<(p0+2-p).toNat;omega
          clear hns hat2 hkm hpp2
          go_wp2_with fail
          go_roundw
          case rel=>exact⟨p+1,by go_num,HAT2.out,hle1,hle2,hG17⟩
          case measure=>have h1:=HPK.out;have h2:(p0+2-(p+1)).toNat<(p0+2-p).toNat:=HME.out;simp only[intOf];omega
        ·have hb20:((LQ:Int)==(m:Int)+1)=false:=by simp;omega
         have hns:¬ q5A m Q:=by
          rintro(h|⟨h,-⟩)
          ·exact HB1.out (by rw[HLQ.out];exact h)
          ·exact hb2 (by rw[HLQ.out];exact h)
         obtain⟨hat2,hpp2⟩:=HNX.out hns
         have HAT2:Hid (q25 A B m p0 (p+1)):=hat2
         have hle1:p0≤p+1:=by omega
         have hle2:p+1≤p0+1:=by omega
         have HME:Hid ((p0+2-(p+1)).toNat<(p0+2-p).toNat):=by show (p0+2-(p+1)).toNat<(p0+2-p).toNat;omega
         clear hns hat2 hb2 hpp2
         go_wp2_with fail
         go_roundw
         case rel=>exact⟨p+1,by go_num,HAT2.out,hle1,hle2,hG16⟩
         case measure=>have h1:=HPK.out;have h2:(p0+2-(p+1)).toNat<(p0+2-p).toNat:=HME.out;simp only[intOf];omega
end Go.Proofs.YtljkfjjchkehaaaGreatDoor
