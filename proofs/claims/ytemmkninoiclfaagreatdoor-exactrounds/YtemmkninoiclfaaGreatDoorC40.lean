/- What is proved here: the reference's root of a fraction that isn't below 0, its walk, over this seat's translation. -/
import Derived.Test.YtemmkninoiclfaaGreatDoorC39
namespace Go.Proofs.YtemmkninoiclfaaGreatDoor.EN
open Go.ChangeShapes Go.WideShapes Go.ChangeAt Go.RowKit
attribute [local go_sem] q0h q0p
set_option maxHeartbeats 4000000 in
set_option maxRecDepth 10000 in
theorem q6c (w:World) (u:Value) (q:Rat) (m:Int) (h0:0≤q.num) (hq:QB q 80) (hm:m=1∨m=2∨m=3∨m=4) {E T F H S N:Nat} {s:Rat} (hE:E=2^1074) (h:RootSet q E F H S N T s) (hu:PR w u q):
  Calls Tryz.prog 20 #[u,.int .i64 m] w fun e w'=>e= .returned (.float .f64 (q2f m E q.num.natAbs q.den T))∧G w w':=by
 obtain⟨b1,b2,b3,b4,b5,b6⟩:=qay h hq
 obtain⟨K8,Mg⟩:∃ k:Nat,k=80:=⟨_,rfl⟩
 have hqk:QB q K8:=by rw[Mg];exact hq
 have Mh:q.den<2^(32*235):=by
  obtain⟨m8,fT⟩:∃ n:Nat,n=32*235:=⟨_,rfl⟩
  rw[← fT]
  exact Nat.lt_of_lt_of_le (qb32 hqk).2 (Nat.pow_le_pow_right (by omega) (by omega))
 obtain⟨k1,hk1⟩:∃ k:Nat,k=1200:=⟨_,rfl⟩
 obtain⟨k2,hk2⟩:∃ k:Nat,k=2400:=⟨_,rfl⟩
 have hx:=h.x
 rw[← hk1] at hx
 have vC:E*F*(E*F)=2^k2:=by rw[hx,← Nat.pow_add];congr 1;omega
 have hX0:0<E*F:=Nat.mul_pos h.e0 h.f0
 obtain⟨b,rfl,hb,hr⟩:=hu
 have HR:Hid (RIs w b q):=hr
 have Mi:Hid (∀ w1 p,G w w1→NI w w1 p 0→Calls Tryz.prog 68 #[.pointer (some ⟨p,0,none⟩),.pointer (some ⟨b,0,none⟩),.int .u64 2400] w1 (SetTo w1 p 0 ((q.num.natAbs*(E*F*(E*F)):Nat):Int))):=fun w1 p g hp=>by
  have k:=q1K w1 p 0 b 0 k2 0 q.num (2*K8) (by omega) (by omega) (qb32 hqk).1 hp.2.1 (G.lt g hb) hp.2.2 (hr.G hb g).1
  rw[show (k2:Int)=2400 from by omega,show q.num*2^k2=((q.num.natAbs*(E*F*(E*F)):Nat):Int) from by rw[vC,Int.natCast_mul,← q7n h0,Int.natCast_pow];rfl] at k
  exact k
 have HDn:Hid (∀ w1,G w w1→Calls Tryz.prog 71 #[.pointer (some ⟨b,0,none⟩)] w1 (RetI w1 (q.den:Int))):=fun w1 g=>qaN w1 b q.num q.den (2*K8) (by omega) (qb32 hqk).2 q.den_pos (G.lt g hb) (hr.G hb g)
 have Mj:Hid (∀ w1 p d,NI w w1 p ((q.num.natAbs*(E*F*(E*F)):Nat):Int)→d<w1.heap.size→IntIs w1 d 0 (q.den:Int)→Calls Tryz.prog 70 #[.pointer (some ⟨p,0,none⟩),.pointer (some ⟨p,0,none⟩),.pointer (some ⟨d,0,none⟩)] w1 (SetTo w1 p 0 (N:Int))):=fun w1 p d hp hd hi=>by
  have k:=qaR w1 p 0 p 0 d 0 _ _ (q.den:Int) 235 (by omega) (by rw[Int.natAbs_natCast];exact b1) (by rw[Int.natAbs_natCast];exact Mh) (by have:=q.den_pos;omega) hp.2.1 hp.2.1 hd hp.2.2 hp.2.2 hi
  rw[show Int.tdiv ((q.num.natAbs*(E*F*(E*F)):Nat):Int) (q.den:Int)=(N:Int) from by rw[h.n];rfl] at k
  exact k
 have Mk:Hid (∀ w1 p ps,ps<w1.heap.size→p<w1.heap.size→IntIs w1 ps 0 0→IntIs w1 p 0 (N:Int)→Calls Tryz.prog 72 #[.pointer (some ⟨ps,0,none⟩),.pointer (some ⟨p,0,none⟩)] w1 (SetTo w1 ps 0 (S:Int))):=fun w1 p ps hps hp hi hn=>
  qat w1 ps 0 p 0 0 N S 235 (by omega) (by omega) b2 h.r1 h.r2 hps hp hi hn
 have HL2:Hid (∀ w1 pl po,pl<w1.heap.size→po<w1.heap.size→IntIs w1 pl 0 0→IntIs w1 po 0 1→Calls Tryz.prog 68 #[.pointer (some ⟨pl,0,none⟩),.pointer (some ⟨po,0,none⟩),.int .u64 1200] w1 (SetTo w1 pl 0 ((E*F:Nat):Int))):=fun w1 pl po hpl hpo hi hj=>by
  have k:=q1K w1 pl 0 po 0 k1 0 1 1 (by omega) (by omega) (by decide) hpl hpo hi hj
  rw[show (k1:Int)=1200 from by omega,show (1:Int)*2^k1=((E*F:Nat):Int) from by rw[hx,Int.one_mul,Int.natCast_pow];rfl] at k
  exact k
 have wJ:Hid (∀ w1 pz ps pl,Rec w1 pz [.bool false,.slice none 0 0,.bool false,.slice none 0 0]→ps<w1.heap.size→IntIs w1 ps 0 (S:Int)→pl<w1.heap.size→IntIs w1 pl 0 ((E*F:Nat):Int)→
   Calls Tryz.prog 49 #[.pointer (some ⟨pz,0,none⟩),.pointer (some ⟨ps,0,none⟩),.pointer (some ⟨pl,0,none⟩)] w1 (SetRat w1 pz s)):=fun w1 pz ps pl hz hps his hpl hil=>by
  have k:=q2p w1 pz ps 0 pl 0 (S:Int) ((E*F:Nat):Int) 235 (by omega) (by rw[Int.natAbs_natCast];exact b3) (by rw[Int.natAbs_natCast];exact b4) (by omega) hps hpl hz his hil
  rw[show ((S:Int):Rat)/(((E*F:Nat):Int):Rat)=s from by rw[h.sr,Rat.mkRat_eq_div,Rat.intCast_natCast (E*F)]] at k
  exact k
 have Ml:Hid (∀ w1 pz ps,pz<w1.heap.size→ps<w1.heap.size→RatIs w1 pz 0 0→RIs w1 ps s→Calls Tryz.prog 14 #[.pointer (some ⟨pz,0,none⟩),.pointer (some ⟨ps,0,none⟩),.pointer (some ⟨ps,0,none⟩)] w1 (SetRat w1 pz (s*s))):=fun w1 pz ps hpz hps hz hi=>
  q7Y w1 pz ps ps 0 0 s s 80 (by omega) b5 b5 hpz hps hps hz hi hi
 obtain⟨c1,hc1⟩:∃ c,c=((s*s).num*q.den-q.num*(s*s).den).sign:=⟨_,rfl⟩
 have mo:Hid (∀ w1 v,G w w1→PR w1 v (s*s)→Calls Tryz.prog 65 #[v,.pointer (some ⟨b,0,none⟩)] w1 fun e w'=>e= .returned (.int .i64 c1)∧G w1 w'):=fun w1 v g hv=>by
  rw[hc1]
  exact q3i w1 v _ (s*s) q 160 (by omega) b6 (hq.mono (by omega)) hv ⟨b,rfl,G.lt g hb,hr.G hb g⟩
 have hs1:=q9f h h0
 rw[← hc1] at hs1
 have BS:Hid (∀ w1 v,PR w1 v s→Calls Tryz.prog 18 #[v,.int .i64 2] w1 fun e w'=>e= .returned (.float .f64 T)∧G w1 w'):=fun w1 v hv=>q8T w1 v h b5 hv
 have ht1:=h.t1
 obtain⟨x,BU⟩:∃ x:Rat,x=mkRat (FT.v T:Int) E:=⟨_,rfl⟩
 obtain⟨y,BV⟩:∃ y:Rat,y=mkRat (FT.v (T+1):Int) E:=⟨_,rfl⟩
 obtain⟨qx,qy,Mm,qm⟩:=qby hE ht1 BU BV
 have uE:Hid (∀ w1,Calls Tryz.prog 10 #[.float .f64 T] w1 (RetP w1 x)):=fun w1=>by rw[BU];exact q9t w1 hE ht1
 obtain⟨c2,hc2⟩:∃ c,c=(x.num*s.den-s.num*x.den).sign:=⟨_,rfl⟩
 have iY:Hid (∀ w1 v v2,PR w1 v x→PR w1 v2 s→Calls Tryz.prog 65 #[v,v2] w1 fun e w'=>e= .returned (.int .i64 c2)∧G w1 w'):=fun w1 v v2 hv hv2=>by
  rw[hc2]
  exact q3i w1 v v2 x s 80 (by omega) qx b5 hv hv2
 have hs2:=qan h BU
 rw[← hc2] at hs2
 have dA:Hid (∀ w1:World,Calls Tryz.prog 66 #[.int .i64 1] w1 fun e w'=>e= .returned (.float .f64 FT.infR)∧G w1 w'):=fun w1=>q8Y 1 w1 (by omega)
 have fP:Hid (∀ w1:World,Calls Tryz.prog 39 #[.float .f64 T,.float .f64 FT.infR] w1 fun e w'=>e= .returned (.float .f64 (T+1))∧G w1 w'):=fun w1=>by
  have k:=q0W T w1 (by omega)
  rw[show T=FT.wrd false T from rfl,q7t ht1] at k
  exact k
 have AR:Hid (∀ w1:World,Calls Tryz.prog 42 #[.float .f64 (T+1),.int .i64 0] w1 fun e w'=>e= .returned (.bool (decide (T+1=2047*2^52)))∧G w1 w'):=fun w1=>by
  have k:=q2U (T+1) w1 (by omega)
  rw[FT.rung_small (by omega)] at k
  exact k
 have xN:Hid (∀ w1,T+1=2047*2^52→Calls Tryz.prog 74 #[.int .i64 1024] w1 (RetP w1 y)):=fun w1 hi=>by
  have k:=q9C w1
  rw[qaV hE,← hi,← BV] at k
  exact k
 have rz:Hid (∀ w1,Calls Tryz.prog 74 #[.int .i64 1024] w1 (RetP w1 (mkRat ((2^1024:Nat):Int) 1))):=fun w1=>q9C w1
 have Mo:Hid (∀ w1,T+1<2047*2^52→Calls Tryz.prog 10 #[.float .f64 (T+1)] w1 (RetP w1 y)):=fun w1 hi=>by rw[BV];exact q9t w1 hE hi
 have Bz:Hid (∀ w1 pz px py,pz<w1.heap.size→px<w1.heap.size→py<w1.heap.size→RatIs w1 pz 0 0→RIs w1 px x→RIs w1 py y→Calls Tryz.prog 12 #[.pointer (some ⟨pz,0,none⟩),.pointer (some ⟨px,0,none⟩),.pointer (some ⟨py,0,none⟩)] w1 (SetRat w1 pz (x+y))):=fun w1 pz px py k1 k2 k3 k4 k5 k6=>
  q9w w1 pz px py 0 0 x y 80 (by omega) qx qy k1 k2 k3 k4 k5 k6
 have Mq:Hid (∀ w1 pz px py,pz<w1.heap.size→px<w1.heap.size→py<w1.heap.size→RatIs w1 pz 0 0→RIs w1 px (x+y)→RIs w1 py (mkRat 1 2)→Calls Tryz.prog 14 #[.pointer (some ⟨pz,0,none⟩),.pointer (some ⟨px,0,none⟩),.pointer (some ⟨py,0,none⟩)] w1 (SetRat w1 pz ((x+y)*mkRat 1 2))):=fun w1 pz px py k1 k2 k3 k4 k5 k6=>
  q7Y w1 pz px py 0 0 (x+y) (mkRat 1 2) 80 (by omega) Mm ⟨by decide+kernel,by decide+kernel⟩ k1 k2 k3 k4 k5 k6
 obtain⟨c3,hc3⟩:∃ c,c=(s.num*((x+y)*mkRat 1 2).den-((x+y)*mkRat 1 2).num*s.den).sign:=⟨_,rfl⟩
 have Mr:Hid (∀ w1 v v2,PR w1 v s→PR w1 v2 ((x+y)*mkRat 1 2)→Calls Tryz.prog 65 #[v,v2] w1 fun e w'=>e= .returned (.int .i64 c3)∧G w1 w'):=fun w1 v v2 hv hv2=>by
  rw[hc3]
  exact q3i w1 v v2 s _ 80 (by omega) b5 qm hv hv2
 have Hq:Hid (c3= -1∨c3=0∨c3=1):=by
  show _∨_
  rw[hc3]
  generalize s.num*((x+y)*mkRat 1 2).den-((x+y)*mkRat 1 2).num*s.den=D
  rcases Int.lt_trichotomy D 0 with h|h|h
  ·exact Or.inl (Int.sign_eq_neg_one_of_neg h)
  ·exact Or.inr (Or.inl (by rw[h];rfl))
  ·exact Or.inr (Or.inr (Int.sign_eq_one_of_pos h))
 have hs3:=qac h BU BV
 rw[← hc3] at hs3
 generalize (x+y)*mkRat 1 2=mid at *
 have HZ:Hid (q1x E q.num.natAbs q.den T=0↔c1=0∧c2=0):=by rw[hs1,hs2];exact h.z
 have FM:Hid (q1x E q.num.natAbs q.den T≠0→q1x E q.num.natAbs q.den T=if c3<0 then 1 else if c3=0∧c1=0 then 2 else 3):=fun k=>by
  have k2:=h.l k
  simp only[← hs3.1,← hs3.2,← hs1] at k2
  exact k2
 have mF:Hid ((c1=0∧c2=0)∨m=2∨m=4→q2f m E q.num.natAbs q.den T=T):=fun k=>by
  rcases k with k|k
  ·exact q3u (Or.inl (HZ.out.2 k))
  ·exact q3u (Or.inr k)
 have AU:Hid (¬ (c1=0∧c2=0)→m=3→q2f m E q.num.natAbs q.den T=T+1):=fun k AV=>by rw[AV];exact q8P (fun k2=>k (HZ.out.1 k2))
 have AX:Hid (¬ (c1=0∧c2=0)→m=1→q2f m E q.num.natAbs q.den T=if c3<0∨(c3=0∧c1=0∧T%2=0) then T else T+1):=fun k hm1=>by
  rw[hm1]
  have k0:q1x E q.num.natAbs q.den T≠0:=fun k2=>k (HZ.out.1 k2)
  rw[q6V k0,FM.out k0]
  by_cases a1:c3<0
  ·rw[if_pos a1,if_pos (Or.inl a1),if_neg (by omega)]
  ·rw[if_neg a1]
   by_cases a2:c3=0∧c1=0
   ·rw[if_pos a2]
    by_cases a3:T%2=0
    ·rw[if_neg (by omega),if_pos (by omega)]
    ·rw[if_pos (by omega),if_neg (by omega)]
   ·rw[if_neg a2,if_pos (by omega),if_neg (by omega)]
 generalize q2f m E q.num.natAbs q.den T=rv at *
 have Ms:Hid (∀ w1:World,_):=fun w1=>qbg w1
 clear HZ FM hs1 hs2 hs3 hc1 hc2 hc3 BU BV qx qy Mm qm h b1 b2 b3 b4 b5 b6 hx vC hX0 hk1 hk2 hr hE h0 hq k1 k2 hqk Mh Mg K8
 generalize mkRat ((2^1024:Nat):Int) 1=tp at *
 generalize ((q.num.natAbs*(E*F*(E*F)):Nat):Int)=ai at *
 generalize ((E*F:Nat):Int)=xi at *
 generalize s*s=ss at *
 generalize x+y=xy at *
 generalize mkRat 1 2=hf at *
 generalize (S:Int)=si at *
 generalize (N:Int)=ni at *
 generalize (q.den:Int)=di at *
 have HT1:Hid (T<2047*2^52):=ht1
 have U6:(T:Int)<9218868437227405312:=by omega
 clear ht1
 go_enter Tryz.func20,Tryz.ntmps20
 go_wp2_with fail
 have hp0:=NI.new (G.refl w) 38
 have bO:=(G.refl w).alloc (.cells #[.bool false,.slice none 0 0] 38)
 obtain⟨p,hp⟩:∃ p,p=w.heap.size:=⟨_,rfl⟩
 rw[← hp] at hp0 ⊢
 generalize w.alloc (.cells #[.bool false,.slice none 0 0] 38)=w1 at *
 clear hp
 have iZ:Hid (NI w w1 p 0):=hp0
 clear hp0
 refine Calls.mono (P:=Tryz.prog) (qcl w1 b) ?_
 rintro e w2 ⟨rfl,g2⟩
 have hG2:=G.trans bO g2
 have hp2:=iZ.out.G g2
 clear iZ bO g2
 go_wp2_with fail
 refine Calls.mono (P:=Tryz.prog) (Mi.out w2 p hG2 hp2) ?_
 intro e w3 hs
 obtain⟨rfl,hG3,gy,-,-⟩:=SetTo.step hG2 hp2 hs
 have fQ:Hid (NI w w3 p ai):=gy
 clear hs gy hp2 hG2 Mi
 go_wp2_with fail
 refine Calls.mono (P:=Tryz.prog) (HDn.out w3 hG3) ?_
 intro e w4 hi
 obtain⟨d,rfl,g4,hd1,hd2,hd3⟩:=hi
 have hG4:=G.trans hG3 g4
 have uF:=fQ.out.G g4
 have hQ:=Mj.out w4 p d uF hd2 hd3
 have HQ:Hid _:=hQ
 have eO:Hid (NI w w4 p ai):=uF
 clear hQ hd1 hd2 hd3 g4 fQ uF HDn Mj hG3
 go_wp2_with fail
 refine Calls.mono (P:=Tryz.prog) HQ.out ?_
 intro e w5 hs
 obtain⟨rfl,bZ,gT,-,-⟩:=SetTo.step hG4 eO.out hs
 have gz:Hid (NI w w5 p ni):=gT
 clear hs gT eO HQ hG4
 go_wp2_with fail
 have hz0:=q7p w5 40
 have ga:=(G.refl w5).alloc (.cells #[.bool false,.slice none 0 0,.bool false,.slice none 0 0] 40)
 have hsz:(w5.alloc (.cells #[.bool false,.slice none 0 0,.bool false,.slice none 0 0] 40)).heap.size=w5.heap.size+1:=by simp
 obtain⟨z,hz⟩:∃ z,z=w5.heap.size:=⟨_,rfl⟩
 rw[← hz] at hz0 hsz ⊢
 have Mt:w.heap.size≤z:=by rw[hz];exact bZ.size
 clear hz
 generalize w5.alloc (.cells #[.bool false,.slice none 0 0,.bool false,.slice none 0 0] 40)=w6 at *
 have Mv:Hid (Rec w6 z [.bool false,.slice none 0 0,.bool false,.slice none 0 0]):=hz0
 have Mw:Hid (NI w w6 p ni):=gz.out.G ga
 have nE:Hid (G w w6):=G.trans bZ ga
 clear hz0 ga gz bZ
 have hs0:=NI.new (G.refl w6) 38
 have gs:=(G.refl w6).alloc (.cells #[.bool false,.slice none 0 0] 38)
 rw[hsz] at hs0
 generalize z+1=ps at hs0 ⊢
 clear hsz
 generalize w6.alloc (.cells #[.bool false,.slice none 0 0] 38)=w7 at *
 have rA:=Mw.out.G gs
 refine Calls.mono (P:=Tryz.prog) (Mk.out w7 p ps hs0.2.1 rA.2.1 hs0.2.2 rA.2.2) ?_
 intro e w8 hs
 obtain⟨rfl,g8,aI,-,-⟩:=SetTo.step gs hs0 hs
 have Hr:Hid (NI w6 w8 ps si):=aI
 clear hs aI hs0 gs rA Mk Mw
 go_wp2_with fail
 have hl0:=NI.new g8 38
 have ga:=(G.refl w8).alloc (.cells #[.bool false,.slice none 0 0] 38)
 have hsl:ps≠w8.heap.size:=by have:=Hr.out.2.1;omega
 generalize w8.heap.size=pl at *
 generalize w8.alloc (.cells #[.bool false,.slice none 0 0] 38)=w9 at *
 have g9:=G.trans g8 ga
 have Mx:Hid (NI w6 w9 ps si):=Hr.out.G ga
 have MB:Hid (NI w6 w9 pl 0):=hl0
 clear ga hl0 Hr g8
 refine Calls.mono (P:=Tryz.prog) (q1p w9 1 (by omega)) ?_
 intro e aU hi
 obtain⟨po,rfl,g10,ho1,ho2,ho3⟩:=hi
 have MC:=G.trans g9 g10
 have BX:=Mx.out.G g10
 have vD:=MB.out.G g10
 have BZ:Hid _:=HL2.out aU pl po vD.2.1 ho2 vD.2.2 ho3
 have C8:Hid (NI w6 aU ps si):=BX
 have C9:Hid (NI w6 aU pl 0):=vD
 clear g9 g10 ho1 ho2 ho3 BX vD Mx MB HL2
 go_wp2_with fail
 refine Calls.mono (P:=Tryz.prog) BZ.out ?_
 intro e dM hs
 obtain⟨rfl,g11,xO,-,hk⟩:=SetTo.step MC C9.out hs
 have aY:=hk ps _ hsl C8.out
 have xP:=Rec.G Mv.out g11
 have Ca:Hid _:=wJ.out dM z ps pl xP aY.2.1 aY.2.2 xO.2.1 xO.2.2
 have hzs:=xP.lt
 have Cb:Hid (G w dM):=G.trans nE.out g11
 clear hs hk aY xO xP C8 C9 BZ MC g11 Mv nE wJ hsl
 go_wp2_with fail
 refine Calls.mono (P:=Tryz.prog) Ca.out ?_
 intro e gq hs
 obtain⟨je,rfl,g12,hq1,hq2,hq3⟩:=SetRat.ret Cb.out Mt hzs hs
 have Cc:Hid (G w gq):=g12
 have nO:Hid (je<gq.heap.size∧RIs gq je s):=⟨hq2,hq3⟩
 clear hs hq1 hq2 hq3 g12 Ca hzs Mt Cb
 go_wp2_with fail
 have hr0:=q2Q gq 40
 have ga:=(G.refl gq).alloc (.cells #[.bool false,.slice none 0 0,.bool false,.slice none 0 0] 40)
 have hzs:gq.heap.size<(gq.alloc (.cells #[.bool false,.slice none 0 0,.bool false,.slice none 0 0] 40)).heap.size:=by simp
 obtain⟨z2,hz2⟩:∃ z,z=gq.heap.size:=⟨_,rfl⟩
 rw[← hz2] at hr0 hzs ⊢
 have hz3:gq.heap.size≤z2:=by omega
 clear hz2
 generalize gq.alloc (.cells #[.bool false,.slice none 0 0,.bool false,.slice none 0 0] 40)=l7 at *
 refine Calls.mono (P:=Tryz.prog) (Ml.out l7 z2 je hzs (G.lt ga nO.out.1) hr0 (RIs.G nO.out.2 nO.out.1 ga)) ?_
 intro e uD hs
 obtain⟨P5,rfl,g14,-,hq2,hq3⟩:=SetRat.ret ga hz3 hzs hs
 have xQ:Hid (G w uD):=G.trans Cc.out g14
 have vE:Hid (je<uD.heap.size∧RIs uD je s):=⟨G.lt g14 nO.out.1,RIs.G nO.out.2 nO.out.1 g14⟩
 have Ce:Hid _:=mo.out uD _ xQ.out ⟨P5,rfl,hq2,hq3⟩
 clear hs hq2 hq3 g14 ga hr0 hzs hz3 Ml mo Cc nO
 go_wp2_with fail
 refine Calls.mono (P:=Tryz.prog) Ce.out ?_
 rintro e kT ⟨rfl,g15⟩
 have Cf:Hid (G w kT):=G.trans xQ.out g15
 have rC:Hid (je<kT.heap.size∧RIs kT je s):=⟨G.lt g15 vE.out.1,RIs.G vE.out.2 vE.out.1 g15⟩
 have Cg:Hid _:=BS.out kT _ ⟨je,rfl,rC.out⟩
 clear g15 xQ vE Ce BS
 go_wp2_with fail
 refine Calls.mono (P:=Tryz.prog) Cg.out ?_
 rintro e w16 ⟨rfl,g16⟩
 have vF:Hid (G w w16):=G.trans Cf.out g16
 have pV:Hid (je<w16.heap.size∧RIs w16 je s):=⟨G.lt g16 rC.out.1,RIs.G rC.out.2 rC.out.1 g16⟩
 clear g16 Cf rC Cg
 by_cases a1:c1=0
 case' pos=>
  have HA:Hid (c1=0):=a1
  go_wp2_with fail
  refine Calls.mono (P:=Tryz.prog) (uE.out w16) ?_
  rintro e vG ⟨v17,rfl,g17,k17⟩
  have Ch:Hid (G w vG):=G.trans vF.out g17
  have rD:Hid (je<vG.heap.size∧RIs vG je s):=⟨G.lt g17 pV.out.1,RIs.G pV.out.2 pV.out.1 g17⟩
  have Ci:Hid _:=iY.out vG _ _ k17 ⟨je,rfl,rD.out⟩
  clear g17 k17 vF pV iY
  go_wp2_with fail
  refine Calls.mono (P:=Tryz.prog) Ci.out ?_
  rintro e w6 ⟨rfl,g18⟩
  have nE:Hid (G w w6):=G.trans Ch.out g18
  have rE:Hid (je<w6.heap.size∧RIs w6 je s):=⟨G.lt g18 rD.out.1,RIs.G rD.out.2 rD.out.1 g18⟩
  clear g18 Ch rD Ci
  by_cases a2:c2=0
  case pos=>
   have HV:Hid (rv=T):=mF.out (Or.inl ⟨a1,a2⟩)
   clear mF AU AX
   go_wp2_with fail
   go_ret
   exact⟨by rw[HV.out];first|done|rfl,nE.out⟩
  have HN:Hid (¬ (c1=0∧c2=0)):=fun k=>a2 k.2
  have a8:(c2==0)=false:=by simpa using a2
 case' neg=>
  have HN:Hid (¬ (c1=0∧c2=0)):=fun k=>a1 k.1
  have HA:Hid (¬ c1=0):=a1
  have a8:(c1==0)=false:=by simpa using a1
  have nE:Hid (G w w16):=vF.out
  have rE:Hid (je<w16.heap.size∧RIs w16 je s):=pV.out
  clear vF pV iY
 all_goals
  rcases hm with rfl|rfl|rfl|rfl
  ·have gP:Hid _:=AX.out HN.out rfl
   clear AX HN mF AU
   go_wp2_with fail
   refine Calls.mono (P:=Tryz.prog) (dA.out _) ?_
   rintro e Ht ⟨rfl,g20⟩
   go_wp2_with fail
   refine Calls.mono (P:=Tryz.prog) (fP.out Ht) ?_
   rintro e vH ⟨rfl,g21⟩
   have pW:Hid (G w vH):=G.trans nE.out (G.trans g20 g21)
   have l9:Hid (je<vH.heap.size∧RIs vH je s):=⟨G.lt (G.trans g20 g21) rE.out.1,RIs.G rE.out.2 rE.out.1 (G.trans g20 g21)⟩
   clear g20 g21 nE rE dA fP
   go_wp2_with fail
   by_cases hi:T+1=2047*2^52
   case' pos=>
    have hd:decide (T+1=2047*2^52)=true:=decide_eq_true hi
    rw[hd] at AR
    refine Calls.mono (P:=Tryz.prog) (xN.out vH hi) ?_
    rintro e Hu ⟨v22,rfl,g22,k22⟩
    clear hi hd rz xN
    go_wp2_with fail
    refine Calls.mono (P:=Tryz.prog) (AR.out Hu) ?_
    rintro e jZ ⟨rfl,g23⟩
    have xR:Hid (G w jZ):=G.trans pW.out (G.trans g22 g23)
    have rF:Hid (je<jZ.heap.size∧RIs jZ je s):=⟨G.lt (G.trans g22 g23) l9.out.1,RIs.G l9.out.2 l9.out.1 (G.trans g22 g23)⟩
    have xS:Hid (PR jZ v22 y):=k22.G g23
    clear g22 g23 pW l9 AR k22
   case' neg=>
    have hd:decide (T+1=2047*2^52)=false:=decide_eq_false hi
    rw[hd] at AR
    have hi2:T+1<2047*2^52:=by have:=HT1.out;omega
    have Cj:Hid (∀ w1:World,_):=fun w1=>Mo.out w1 hi2
    refine Calls.mono (P:=Tryz.prog) (rz.out vH) ?_
    rintro e Hu ⟨v21,rfl,g22,-⟩
    clear hi hd rz xN hi2 Mo
    go_wp2_with fail
    refine Calls.mono (P:=Tryz.prog) (AR.out Hu) ?_
    rintro e P6 ⟨rfl,g23⟩
    go_wp2_with fail
    refine Calls.mono (P:=Tryz.prog) (Cj.out P6) ?_
    rintro e jZ ⟨v22,rfl,g24,k22⟩
    have xR:Hid (G w jZ):=G.trans pW.out (G.trans g22 (G.trans g23 g24))
    have rF:Hid (je<jZ.heap.size∧RIs jZ je s):=⟨G.lt (G.trans g22 (G.trans g23 g24)) l9.out.1,RIs.G l9.out.2 l9.out.1 (G.trans g22 (G.trans g23 g24))⟩
    have xS:Hid (PR jZ v22 y):=k22
    clear g22 g23 g24 pW l9 AR k22 Cj
   all_goals
    go_wp2_with fail
    have hz0:=q2Q jZ 40
    have ga:=(G.refl jZ).alloc (.cells #[.bool false,.slice none 0 0,.bool false,.slice none 0 0] 40)
    have hsz:(jZ.alloc (.cells #[.bool false,.slice none 0 0,.bool false,.slice none 0 0] 40)).heap.size=jZ.heap.size+1:=by simp
    have rG:jZ.heap.size<(jZ.alloc (.cells #[.bool false,.slice none 0 0,.bool false,.slice none 0 0] 40)).heap.size:=by simp
    obtain⟨z1,hz1⟩:∃ z,z=jZ.heap.size:=⟨_,rfl⟩
    have Ck:jZ.heap.size≤z1:=by omega
    rw[← hz1] at hz0 hsz rG ⊢
    clear hz1
    generalize jZ.alloc (.cells #[.bool false,.slice none 0 0,.bool false,.slice none 0 0] 40)=oU at *
    have hy0:=q2Q oU 40
    have gb:=(G.refl oU).alloc (.cells #[.bool false,.slice none 0 0,.bool false,.slice none 0 0] 40)
    have hlt1:oU.heap.size<(oU.alloc (.cells #[.bool false,.slice none 0 0,.bool false,.slice none 0 0] 40)).heap.size:=by simp
    obtain⟨z2,hz2⟩:∃ z,z=oU.heap.size:=⟨_,rfl⟩
    have Cm:oU.heap.size≤z2:=by omega
    rw[← hz2] at hy0 hlt1
    have e12:z1+1=z2:=by omega
    rw[e12]
    clear hz2 hsz e12
    generalize oU.alloc (.cells #[.bool false,.slice none 0 0,.bool false,.slice none 0 0] 40)=xU at *
    have HZ1:Hid (z1<xU.heap.size∧RatIs xU z1 0 0):=⟨G.lt gb rG,RatIs.G hz0 rG gb⟩
    have HZ2:Hid (z2<xU.heap.size∧RatIs xU z2 0 0):=⟨hlt1,hy0⟩
    have qG:Hid (G jZ xU∧jZ.heap.size≤z1∧oU.heap.size≤z2∧G oU xU∧z1<oU.heap.size∧RatIs oU z1 0 0∧G jZ oU):=⟨G.trans ga gb,Ck,Cm,gb,rG,hz0,ga⟩
    clear hz0 hy0 ga gb rG hlt1 Ck Cm
    refine Calls.mono (P:=Tryz.prog) (uE.out xU) ?_
    rintro e Hw ⟨v27,rfl,AY,k27⟩
    obtain⟨px,rfl,hx1,hx2⟩:=k27
    obtain⟨py,rfl,hy1,hy2⟩:=xS.out
    have rH:=G.trans qG.out.1 AY
    have HAD:Hid _:=Bz.out Hw z2 px py (G.lt AY HZ2.out.1) hx1 (G.lt rH hy1) (RatIs.G HZ2.out.2 HZ2.out.1 AY) hx2 (RIs.G hy2 hy1 rH)
    have xV:Hid (G oU Hw∧z2<Hw.heap.size):=⟨G.trans qG.out.2.2.2.1 AY,G.lt AY HZ2.out.1⟩
    clear AY hx1 hx2 hy1 hy2 rH HZ2 HZ1 xS Bz uE
    go_wp2_with fail
    refine Calls.mono (P:=Tryz.prog) HAD.out ?_
    intro e FN hs
    obtain⟨p28,rfl,ME,-,hs1,hs2⟩:=SetRat.ret xV.out.1 qG.out.2.2.1 xV.out.2 hs
    have vI:Hid (p28<FN.heap.size∧RIs FN p28 xy):=⟨hs1,hs2⟩
    have Cn:Hid (G oU FN):=ME
    clear hs hs1 hs2 ME HAD xV
    go_wp2_with fail
    refine Calls.mono (P:=Tryz.prog) (Ms.out FN) ?_
    rintro e Hy ⟨v29,rfl,FO,P7⟩
    obtain⟨ph,rfl,FP,Hz⟩:=P7
    have mG:=G.trans Cn.out FO
    have Co:Hid _:=Mq.out Hy z1 p28 ph (G.lt mG qG.out.2.2.2.2.1) (G.lt FO vI.out.1) FP (RatIs.G qG.out.2.2.2.2.2.1 qG.out.2.2.2.2.1 mG) (RIs.G vI.out.2 vI.out.1 FO) Hz
    have xW:Hid (G jZ Hy∧z1<Hy.heap.size):=⟨G.trans qG.out.2.2.2.2.2.2 mG,G.lt mG qG.out.2.2.2.2.1⟩
    clear FO FP Hz mG Ms Mq vI Cn
    go_wp2_with fail
    refine Calls.mono (P:=Tryz.prog) Co.out ?_
    intro e MF hs
    obtain⟨p30,rfl,FU,-,hs1,hs2⟩:=SetRat.ret xW.out.1 qG.out.2.1 xW.out.2 hs
    have Cq:Hid _:=Mr.out MF _ _ ⟨je,rfl,G.lt FU rF.out.1,RIs.G rF.out.2 rF.out.1 FU⟩ ⟨p30,rfl,hs1,hs2⟩
    have Cr:Hid (G w MF):=G.trans xR.out FU
    clear hs hs1 hs2 FU Co xW qG Mr rF xR
    go_wp2_with fail
    refine Calls.mono (P:=Tryz.prog) Cq.out ?_
    rintro e BQ ⟨rfl,qH⟩
    have nE:Hid (G w BQ):=G.trans Cr.out qH
    clear qH Cr Cq
    rcases Hq.out with h3|h3|h3
    ·subst h3
     have HV:Hid (rv=T):=by
      show rv=_
      rw[gP.out,if_pos (Or.inl (by decide))]
     clear gP
     go_wp2_with fail
     go_ret
     exact⟨by rw[HV.out];first|done|rfl,nE.out⟩
    ·subst h3
     by_cases a5:T%2=0
     ·have a6:(T:Int)%2=0:=by omega
      first
      |have HV:Hid (rv=T):=by
        show rv=_
        rw[gP.out,if_pos (Or.inr ⟨rfl,HA.out,a5⟩)]
      |have HV:Hid (rv=T+1):=by
        show rv=_
        rw[gP.out,if_neg (fun k=>by have:=HA.out;omega)]
      clear gP a5
      go_wp2_with fail
      go_ret
      exact⟨by rw[HV.out];first|done|rfl,nE.out⟩
     ·have a6:(T:Int)%2=1:=by omega
      have HV:Hid (rv=T+1):=by
       show rv=_
       rw[gP.out,if_neg (by omega)]
      clear gP a5
      go_wp2_with fail
      go_ret
      exact⟨by rw[HV.out];first|done|rfl,nE.out⟩
    ·subst h3
     have HV:Hid (rv=T+1):=by
      show rv=_
      rw[gP.out,if_neg (by omega)]
     clear gP
     go_wp2_with fail
     go_ret
     exact⟨by rw[HV.out];first|done|rfl,nE.out⟩
  ·have HV:Hid (rv=T):=mF.out (Or.inr (Or.inl rfl))
   clear mF AU AX HN
   go_wp2_with fail
   go_ret
   exact⟨by rw[HV.out];first|done|rfl,nE.out⟩
  ·have HV:Hid (rv=T+1):=AU.out HN.out rfl
   clear mF AU AX HN
   go_wp2_with fail
   refine Calls.mono (P:=Tryz.prog) (dA.out _) ?_
   rintro e Ht ⟨rfl,g20⟩
   go_wp2_with fail
   refine Calls.mono (P:=Tryz.prog) (fP.out Ht) ?_
   rintro e vH ⟨rfl,g21⟩
   have pW:Hid (G w vH):=G.trans nE.out (G.trans g20 g21)
   have l9:Hid (je<vH.heap.size∧RIs vH je s):=⟨G.lt (G.trans g20 g21) rE.out.1,RIs.G rE.out.2 rE.out.1 (G.trans g20 g21)⟩
   clear g20 g21 nE rE dA fP
   go_wp2_with fail
   go_ret
   exact⟨by rw[HV.out];first|done|rfl,pW.out⟩
  ·have HV:Hid (rv=T):=mF.out (Or.inr (Or.inr rfl))
   clear mF AU AX HN
   go_wp2_with fail
   go_ret
   exact⟨by rw[HV.out];first|done|rfl,nE.out⟩
end Go.Proofs.YtemmkninoiclfaaGreatDoor.EN
