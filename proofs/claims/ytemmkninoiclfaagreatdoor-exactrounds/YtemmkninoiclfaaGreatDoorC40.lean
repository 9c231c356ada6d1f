/- What is proved here: the reference's root of a fraction that isn't below 0, its walk, over this seat's translation. -/
import Derived.Test.YtemmkninoiclfaaGreatDoorC39
namespace Go.Proofs.YtemmkninoiclfaaGreatDoor.EN
open Go.ChangeShapes Go.WideShapes Go.ChangeAt Go.RowKit
attribute [local go_sem] q0h q0p
set_option maxHeartbeats 4000000 in
set_option maxRecDepth 10000 in
theorem q6d (w:World) (u:Value) (q:Rat) (m:Int) (h0:0≤q.num) (hq:QB q 80) (hm:m=1∨m=2∨m=3∨m=4) {E T F H S N:Nat} {s:Rat} (hE:E=2^1074) (h:RootSet q E F H S N T s) (hu:PR w u q):
  Calls Tryz.prog 20 #[u,.int .i64 m] w fun e w'=>e= .returned (.float .f64 (q2i m E q.num.natAbs q.den T))∧G w w':=by
 obtain⟨b1,b2,b3,b4,b5,b6⟩:=qax h hq
 obtain⟨K8,MW⟩:∃ k:Nat,k=80:=⟨_,rfl⟩
 have hqk:QB q K8:=by rw[MW];exact hq
 have MX:q.den<2^(32*235):=by
  obtain⟨m8,gL⟩:∃ n:Nat,n=32*235:=⟨_,rfl⟩
  rw[← gL]
  exact Nat.lt_of_lt_of_le (qb32 hqk).2 (Nat.pow_le_pow_right (by omega) (by omega))
 obtain⟨k1,hk1⟩:∃ k:Nat,k=1200:=⟨_,rfl⟩
 obtain⟨k2,hk2⟩:∃ k:Nat,k=2400:=⟨_,rfl⟩
 have hx:=h.x
 rw[← hk1] at hx
 have fU:E*F*(E*F)=2^k2:=by rw[hx,← Nat.pow_add];congr 1;omega
 have hX0:0<E*F:=Nat.mul_pos h.e0 h.f0
 obtain⟨b,rfl,hb,hr⟩:=hu
 have HR:Hid (RIs w b q):=hr
 have MZ:Hid (∀ w1 p,G w w1→NI w w1 p 0→Calls Tryz.prog 68 #[.pointer (some ⟨p,0,none⟩),.pointer (some ⟨b,0,none⟩),.int .u64 2400] w1 (SetTo w1 p 0 ((q.num.natAbs*(E*F*(E*F)):Nat):Int))):=fun w1 p g hp=>by
  have k:=q1N w1 p 0 b 0 k2 0 q.num (2*K8) (by omega) (by omega) (qb32 hqk).1 hp.2.1 (G.lt g hb) hp.2.2 (hr.G hb g).1
  rw[show (k2:Int)=2400 from by omega,show q.num*2^k2=((q.num.natAbs*(E*F*(E*F)):Nat):Int) from by rw[fU,Int.natCast_mul,← q7n h0,Int.natCast_pow];rfl] at k
  exact k
 have HDn:Hid (∀ w1,G w w1→Calls Tryz.prog 71 #[.pointer (some ⟨b,0,none⟩)] w1 (RetI w1 (q.den:Int))):=fun w1 g=>qaM w1 b q.num q.den (2*K8) (by omega) (qb32 hqk).2 q.den_pos (G.lt g hb) (hr.G hb g)
 have N7:Hid (∀ w1 p d,NI w w1 p ((q.num.natAbs*(E*F*(E*F)):Nat):Int)→d<w1.heap.size→IntIs w1 d 0 (q.den:Int)→Calls Tryz.prog 70 #[.pointer (some ⟨p,0,none⟩),.pointer (some ⟨p,0,none⟩),.pointer (some ⟨d,0,none⟩)] w1 (SetTo w1 p 0 (N:Int))):=fun w1 p d hp hd hi=>by
  have k:=qaQ w1 p 0 p 0 d 0 _ _ (q.den:Int) 235 (by omega) (by rw[Int.natAbs_natCast];exact b1) (by rw[Int.natAbs_natCast];exact MX) (by have:=q.den_pos;omega) hp.2.1 hp.2.1 hd hp.2.2 hp.2.2 hi
  rw[show Int.tdiv ((q.num.natAbs*(E*F*(E*F)):Nat):Int) (q.den:Int)=(N:Int) from by rw[h.n];rfl] at k
  exact k
 have N8:Hid (∀ w1 p ps,ps<w1.heap.size→p<w1.heap.size→IntIs w1 ps 0 0→IntIs w1 p 0 (N:Int)→Calls Tryz.prog 72 #[.pointer (some ⟨ps,0,none⟩),.pointer (some ⟨p,0,none⟩)] w1 (SetTo w1 ps 0 (S:Int))):=fun w1 p ps hps hp hi hn=>
  qas w1 ps 0 p 0 0 N S 235 (by omega) (by omega) b2 h.r1 h.r2 hps hp hi hn
 have HL2:Hid (∀ w1 pl po,pl<w1.heap.size→po<w1.heap.size→IntIs w1 pl 0 0→IntIs w1 po 0 1→Calls Tryz.prog 68 #[.pointer (some ⟨pl,0,none⟩),.pointer (some ⟨po,0,none⟩),.int .u64 1200] w1 (SetTo w1 pl 0 ((E*F:Nat):Int))):=fun w1 pl po hpl hpo hi hj=>by
  have k:=q1N w1 pl 0 po 0 k1 0 1 1 (by omega) (by omega) (by decide) hpl hpo hi hj
  rw[show (k1:Int)=1200 from by omega,show (1:Int)*2^k1=((E*F:Nat):Int) from by rw[hx,Int.one_mul,Int.natCast_pow];rfl] at k
  exact k
 have yc:Hid (∀ w1 pz ps pl,Rec w1 pz [.bool false,.slice none 0 0,.bool false,.slice none 0 0]→ps<w1.heap.size→IntIs w1 ps 0 (S:Int)→pl<w1.heap.size→IntIs w1 pl 0 ((E*F:Nat):Int)→
   Calls Tryz.prog 49 #[.pointer (some ⟨pz,0,none⟩),.pointer (some ⟨ps,0,none⟩),.pointer (some ⟨pl,0,none⟩)] w1 (SetRat w1 pz s)):=fun w1 pz ps pl hz hps his hpl hil=>by
  have k:=q2s w1 pz ps 0 pl 0 (S:Int) ((E*F:Nat):Int) 235 (by omega) (by rw[Int.natAbs_natCast];exact b3) (by rw[Int.natAbs_natCast];exact b4) (by omega) hps hpl hz his hil
  rw[show ((S:Int):Rat)/(((E*F:Nat):Int):Rat)=s from by rw[h.sr,Rat.mkRat_eq_div,Rat.intCast_natCast (E*F)]] at k
  exact k
 have N9:Hid (∀ w1 pz ps,pz<w1.heap.size→ps<w1.heap.size→RatIs w1 pz 0 0→RIs w1 ps s→Calls Tryz.prog 14 #[.pointer (some ⟨pz,0,none⟩),.pointer (some ⟨ps,0,none⟩),.pointer (some ⟨ps,0,none⟩)] w1 (SetRat w1 pz (s*s))):=fun w1 pz ps hpz hps hz hi=>
  q7Y w1 pz ps ps 0 0 s s 80 (by omega) b5 b5 hpz hps hps hz hi hi
 obtain⟨c1,hc1⟩:∃ c,c=((s*s).num*q.den-q.num*(s*s).den).sign:=⟨_,rfl⟩
 have nO:Hid (∀ w1 v,G w w1→PR w1 v (s*s)→Calls Tryz.prog 65 #[v,.pointer (some ⟨b,0,none⟩)] w1 fun e w'=>e= .returned (.int .i64 c1)∧G w1 w'):=fun w1 v g hv=>by
  rw[hc1]
  exact q3k w1 v _ (s*s) q 160 (by omega) b6 (hq.mono (by omega)) hv ⟨b,rfl,G.lt g hb,hr.G hb g⟩
 have hs1:=q9g h h0
 rw[← hc1] at hs1
 have CV:Hid (∀ w1 v,PR w1 v s→Calls Tryz.prog 18 #[v,.int .i64 2] w1 fun e w'=>e= .returned (.float .f64 T)∧G w1 w'):=fun w1 v hv=>q8U w1 v h b5 hv
 have ht1:=h.t1
 obtain⟨x,kg⟩:∃ x:Rat,x=mkRat (FT.v T:Int) E:=⟨_,rfl⟩
 obtain⟨y,CW⟩:∃ y:Rat,y=mkRat (FT.v (T+1):Int) E:=⟨_,rfl⟩
 obtain⟨qx,qy,Na,qm⟩:=qbw hE ht1 kg CW
 have oM:Hid (∀ w1,Calls Tryz.prog 10 #[.float .f64 T] w1 (RetP w1 x)):=fun w1=>by rw[kg];exact q9u w1 hE ht1
 obtain⟨c2,hc2⟩:∃ c,c=(x.num*s.den-s.num*x.den).sign:=⟨_,rfl⟩
 have jC:Hid (∀ w1 v v2,PR w1 v x→PR w1 v2 s→Calls Tryz.prog 65 #[v,v2] w1 fun e w'=>e= .returned (.int .i64 c2)∧G w1 w'):=fun w1 v v2 hv hv2=>by
  rw[hc2]
  exact q3k w1 v v2 x s 80 (by omega) qx b5 hv hv2
 have hs2:=qam h kg
 rw[← hc2] at hs2
 have dD:Hid (∀ w1:World,Calls Tryz.prog 66 #[.int .i64 1] w1 fun e w'=>e= .returned (.float .f64 FT.infR)∧G w1 w'):=fun w1=>q8Z 1 w1 (by omega)
 have fK:Hid (∀ w1:World,Calls Tryz.prog 39 #[.float .f64 T,.float .f64 FT.infR] w1 fun e w'=>e= .returned (.float .f64 (T+1))∧G w1 w'):=fun w1=>by
  have k:=q0W T w1 (by omega)
  rw[show T=FT.wrd false T from rfl,q7t ht1] at k
  exact k
 have sj:Hid (∀ w1:World,Calls Tryz.prog 42 #[.float .f64 (T+1),.int .i64 0] w1 fun e w'=>e= .returned (.bool (decide (T+1=2047*2^52)))∧G w1 w'):=fun w1=>by
  have k:=q2W (T+1) w1 (by omega)
  rw[FT.rung_small (by omega)] at k
  exact k
 have ru:Hid (∀ w1,T+1=2047*2^52→Calls Tryz.prog 74 #[.int .i64 1024] w1 (RetP w1 y)):=fun w1 hi=>by
  have k:=q9C w1
  rw[qaU hE,← hi,← CW] at k
  exact k
 have lY:Hid (∀ w1,Calls Tryz.prog 74 #[.int .i64 1024] w1 (RetP w1 (mkRat ((2^1024:Nat):Int) 1))):=fun w1=>q9C w1
 have GG:Hid (∀ w1,T+1<2047*2^52→Calls Tryz.prog 10 #[.float .f64 (T+1)] w1 (RetP w1 y)):=fun w1 hi=>by rw[CW];exact q9u w1 hE hi
 have sV:Hid (∀ w1 pz px py,pz<w1.heap.size→px<w1.heap.size→py<w1.heap.size→RatIs w1 pz 0 0→RIs w1 px x→RIs w1 py y→Calls Tryz.prog 12 #[.pointer (some ⟨pz,0,none⟩),.pointer (some ⟨px,0,none⟩),.pointer (some ⟨py,0,none⟩)] w1 (SetRat w1 pz (x+y))):=fun w1 pz px py k1 k2 k3 k4 k5 k6=>
  q9x w1 pz px py 0 0 x y 80 (by omega) qx qy k1 k2 k3 k4 k5 k6
 have yf:Hid (∀ w1 pz px py,pz<w1.heap.size→px<w1.heap.size→py<w1.heap.size→RatIs w1 pz 0 0→RIs w1 px (x+y)→RIs w1 py (mkRat 1 2)→Calls Tryz.prog 14 #[.pointer (some ⟨pz,0,none⟩),.pointer (some ⟨px,0,none⟩),.pointer (some ⟨py,0,none⟩)] w1 (SetRat w1 pz ((x+y)*mkRat 1 2))):=fun w1 pz px py k1 k2 k3 k4 k5 k6=>
  q7Y w1 pz px py 0 0 (x+y) (mkRat 1 2) 80 (by omega) Na ⟨by decide+kernel,by decide+kernel⟩ k1 k2 k3 k4 k5 k6
 obtain⟨c3,hc3⟩:∃ c,c=(s.num*((x+y)*mkRat 1 2).den-((x+y)*mkRat 1 2).num*s.den).sign:=⟨_,rfl⟩
 have yg:Hid (∀ w1 v v2,PR w1 v s→PR w1 v2 ((x+y)*mkRat 1 2)→Calls Tryz.prog 65 #[v,v2] w1 fun e w'=>e= .returned (.int .i64 c3)∧G w1 w'):=fun w1 v v2 hv hv2=>by
  rw[hc3]
  exact q3k w1 v v2 s _ 80 (by omega) b5 qm hv hv2
 have wN:Hid (c3= -1∨c3=0∨c3=1):=by
  show _∨_
  rw[hc3]
  generalize s.num*((x+y)*mkRat 1 2).den-((x+y)*mkRat 1 2).num*s.den=D
  rcases Int.lt_trichotomy D 0 with h|h|h
  ·exact Or.inl (Int.sign_eq_neg_one_of_neg h)
  ·exact Or.inr (Or.inl (by rw[h];rfl))
  ·exact Or.inr (Or.inr (Int.sign_eq_one_of_pos h))
 have hs3:=qab h kg CW
 rw[← hc3] at hs3
 generalize (x+y)*mkRat 1 2=mid at *
 have HZ:Hid (q1A E q.num.natAbs q.den T=0↔c1=0∧c2=0):=by rw[hs1,hs2];exact h.z
 have GH:Hid (q1A E q.num.natAbs q.den T≠0→q1A E q.num.natAbs q.den T=if c3<0 then 1 else if c3=0∧c1=0 then 2 else 3):=fun k=>by
  have k2:=h.l k
  simp only[← hs3.1,← hs3.2,← hs1] at k2
  exact k2
 have jo:Hid ((c1=0∧c2=0)∨m=2∨m=4→q2i m E q.num.natAbs q.den T=T):=fun k=>by
  rcases k with k|k
  ·exact q3w (Or.inl (HZ.out.2 k))
  ·exact q3w (Or.inr k)
 have tH:Hid (¬ (c1=0∧c2=0)→m=3→q2i m E q.num.natAbs q.den T=T+1):=fun k C9=>by rw[C9];exact q8Q (fun k2=>k (HZ.out.1 k2))
 have tJ:Hid (¬ (c1=0∧c2=0)→m=1→q2i m E q.num.natAbs q.den T=if c3<0∨(c3=0∧c1=0∧T%2=0) then T else T+1):=fun k hm1=>by
  rw[hm1]
  have k0:q1A E q.num.natAbs q.den T≠0:=fun k2=>k (HZ.out.1 k2)
  rw[q6W k0,GH.out k0]
  by_cases a1:c3<0
  ·rw[if_pos a1,if_pos (Or.inl a1),if_neg (by omega)]
  ·rw[if_neg a1]
   by_cases a2:c3=0∧c1=0
   ·rw[if_pos a2]
    by_cases a3:T%2=0
    ·rw[if_neg (by omega),if_pos (by omega)]
    ·rw[if_pos (by omega),if_neg (by omega)]
   ·rw[if_neg a2,if_pos (by omega),if_neg (by omega)]
 generalize q2i m E q.num.natAbs q.den T=rv at *
 have yh:Hid (∀ w1:World,_):=fun w1=>qbe w1
 clear HZ GH hs1 hs2 hs3 hc1 hc2 hc3 kg CW qx qy Na qm h b1 b2 b3 b4 b5 b6 hx fU hX0 hk1 hk2 hr hE h0 hq k1 k2 hqk MX MW K8
 generalize mkRat ((2^1024:Nat):Int) 1=tp at *
 generalize ((q.num.natAbs*(E*F*(E*F)):Nat):Int)=ai at *
 generalize ((E*F:Nat):Int)=xi at *
 generalize s*s=ss at *
 generalize x+y=xy at *
 generalize mkRat 1 2=hf at *
 generalize (S:Int)=si at *
 generalize (N:Int)=ni at *
 generalize (q.den:Int)=di at *
 have HT1:Hid (T<2047*2^52):=ht1
 have Uq:(T:Int)<9218868437227405312:=by omega
 clear ht1
 go_enter Tryz.func20,Tryz.ntmps20
 go_wp2_with fail
 have hp0:=NI.new (G.refl w) 38
 have cO:=(G.refl w).alloc (.cells #[.bool false,.slice none 0 0] 38)
 obtain⟨p,hp⟩:∃ p,p=w.heap.size:=⟨_,rfl⟩
 rw[← hp] at hp0 ⊢
 generalize w.alloc (.cells #[.bool false,.slice none 0 0] 38)=w1 at *
 clear hp
 have jD:Hid (NI w w1 p 0):=hp0
 clear hp0
 refine Calls.mono (P:=Tryz.prog) (qcj w1 b) ?_
 rintro e w2 ⟨rfl,g2⟩
 have hG2:=G.trans cO g2
 have hp2:=jD.out.G g2
 clear jD cO g2
 go_wp2_with fail
 refine Calls.mono (P:=Tryz.prog) (MZ.out w2 p hG2 hp2) ?_
 intro e w3 hs
 obtain⟨rfl,hG3,gW,-,-⟩:=SetTo.step hG2 hp2 hs
 have gK:Hid (NI w w3 p ai):=gW
 clear hs gW hp2 hG2 MZ
 go_wp2_with fail
 refine Calls.mono (P:=Tryz.prog) (HDn.out w3 hG3) ?_
 intro e w4 hi
 obtain⟨d,rfl,g4,hd1,hd2,hd3⟩:=hi
 have hG4:=G.trans hG3 g4
 have vT:=gK.out.G g4
 have hQ:=N7.out w4 p d vT hd2 hd3
 have HQ:Hid _:=hQ
 have fO:Hid (NI w w4 p ai):=vT
 clear hQ hd1 hd2 hd3 g4 gK vT HDn N7 hG3
 go_wp2_with fail
 refine Calls.mono (P:=Tryz.prog) HQ.out ?_
 intro e w5 hs
 obtain⟨rfl,bL,iF,-,-⟩:=SetTo.step hG4 fO.out hs
 have gX:Hid (NI w w5 p ni):=iF
 clear hs iF fO HQ hG4
 go_wp2_with fail
 have hz0:=q7p w5 40
 have ga:=(G.refl w5).alloc (.cells #[.bool false,.slice none 0 0,.bool false,.slice none 0 0] 40)
 have hsz:(w5.alloc (.cells #[.bool false,.slice none 0 0,.bool false,.slice none 0 0] 40)).heap.size=w5.heap.size+1:=by simp
 obtain⟨z,hz⟩:∃ z,z=w5.heap.size:=⟨_,rfl⟩
 rw[← hz] at hz0 hsz ⊢
 have Nb:w.heap.size≤z:=by rw[hz];exact bL.size
 clear hz
 generalize w5.alloc (.cells #[.bool false,.slice none 0 0,.bool false,.slice none 0 0] 40)=w6 at *
 have Nc:Hid (Rec w6 z [.bool false,.slice none 0 0,.bool false,.slice none 0 0]):=hz0
 have Nf:Hid (NI w w6 p ni):=gX.out.G ga
 have gM:Hid (G w w6):=G.trans bL ga
 clear hz0 ga gX bL
 have hs0:=NI.new (G.refl w6) 38
 have gs:=(G.refl w6).alloc (.cells #[.bool false,.slice none 0 0] 38)
 rw[hsz] at hs0
 generalize z+1=ps at hs0 ⊢
 clear hsz
 generalize w6.alloc (.cells #[.bool false,.slice none 0 0] 38)=w7 at *
 have tK:=Nf.out.G gs
 refine Calls.mono (P:=Tryz.prog) (N8.out w7 p ps hs0.2.1 tK.2.1 hs0.2.2 tK.2.2) ?_
 intro e w8 hs
 obtain⟨rfl,g8,aJ,-,-⟩:=SetTo.step gs hs0 hs
 have IC:Hid (NI w6 w8 ps si):=aJ
 clear hs aJ hs0 gs tK N8 Nf
 go_wp2_with fail
 have hl0:=NI.new g8 38
 have ga:=(G.refl w8).alloc (.cells #[.bool false,.slice none 0 0] 38)
 have hsl:ps≠w8.heap.size:=by have:=IC.out.2.1;omega
 generalize w8.heap.size=pl at *
 generalize w8.alloc (.cells #[.bool false,.slice none 0 0] 38)=w9 at *
 have g9:=G.trans g8 ga
 have Ng:Hid (NI w6 w9 ps si):=IC.out.G ga
 have Nh:Hid (NI w6 w9 pl 0):=hl0
 clear ga hl0 IC g8
 refine Calls.mono (P:=Tryz.prog) (q1q w9 1 (by omega)) ?_
 intro e bE hi
 obtain⟨po,rfl,g10,ho1,ho2,ho3⟩:=hi
 have Ni:=G.trans g9 g10
 have CX:=Ng.out.G g10
 have wO:=Nh.out.G g10
 have CY:Hid _:=HL2.out bE pl po wO.2.1 ho2 wO.2.2 ho3
 have CZ:Hid (NI w6 bE ps si):=CX
 have D7:Hid (NI w6 bE pl 0):=wO
 clear g9 g10 ho1 ho2 ho3 CX wO Ng Nh HL2
 go_wp2_with fail
 refine Calls.mono (P:=Tryz.prog) CY.out ?_
 intro e eB hs
 obtain⟨rfl,g11,zg,-,hk⟩:=SetTo.step Ni D7.out hs
 have bI:=hk ps _ hsl CZ.out
 have zh:=Rec.G Nc.out g11
 have D8:Hid _:=yc.out eB z ps pl zh bI.2.1 bI.2.2 zg.2.1 zg.2.2
 have hzs:=zh.lt
 have D9:Hid (G w eB):=G.trans gM.out g11
 clear hs hk bI zg zh CZ D7 CY Ni g11 Nc gM yc hsl
 go_wp2_with fail
 refine Calls.mono (P:=Tryz.prog) D8.out ?_
 intro e gV hs
 obtain⟨gN,rfl,g12,hq1,hq2,hq3⟩:=SetRat.ret D9.out Nb hzs hs
 have Da:Hid (G w gV):=g12
 have p8:Hid (gN<gV.heap.size∧RIs gV gN s):=⟨hq2,hq3⟩
 clear hs hq1 hq2 hq3 g12 D8 hzs Nb D9
 go_wp2_with fail
 have hr0:=q1p gV 40
 have ga:=(G.refl gV).alloc (.cells #[.bool false,.slice none 0 0,.bool false,.slice none 0 0] 40)
 have hzs:gV.heap.size<(gV.alloc (.cells #[.bool false,.slice none 0 0,.bool false,.slice none 0 0] 40)).heap.size:=by simp
 obtain⟨z2,hz2⟩:∃ z,z=gV.heap.size:=⟨_,rfl⟩
 rw[← hz2] at hr0 hzs ⊢
 have hz3:gV.heap.size≤z2:=by omega
 clear hz2
 generalize gV.alloc (.cells #[.bool false,.slice none 0 0,.bool false,.slice none 0 0] 40)=mr at *
 refine Calls.mono (P:=Tryz.prog) (N9.out mr z2 gN hzs (G.lt ga p8.out.1) hr0 (RIs.G p8.out.2 p8.out.1 ga)) ?_
 intro e vS hs
 obtain⟨Py,rfl,g14,-,hq2,hq3⟩:=SetRat.ret ga hz3 hzs hs
 have zi:Hid (G w vS):=G.trans Da.out g14
 have wP:Hid (gN<vS.heap.size∧RIs vS gN s):=⟨G.lt g14 p8.out.1,RIs.G p8.out.2 p8.out.1 g14⟩
 have Db:Hid _:=nO.out vS _ zi.out ⟨Py,rfl,hq2,hq3⟩
 clear hs hq2 hq3 g14 ga hr0 hzs hz3 N9 nO Da p8
 go_wp2_with fail
 refine Calls.mono (P:=Tryz.prog) Db.out ?_
 rintro e lX ⟨rfl,g15⟩
 have Dc:Hid (G w lX):=G.trans zi.out g15
 have tL:Hid (gN<lX.heap.size∧RIs lX gN s):=⟨G.lt g15 wP.out.1,RIs.G wP.out.2 wP.out.1 g15⟩
 have De:Hid _:=CV.out lX _ ⟨gN,rfl,tL.out⟩
 clear g15 zi wP Db CV
 go_wp2_with fail
 refine Calls.mono (P:=Tryz.prog) De.out ?_
 rintro e w16 ⟨rfl,g16⟩
 have wQ:Hid (G w w16):=G.trans Dc.out g16
 have ry:Hid (gN<w16.heap.size∧RIs w16 gN s):=⟨G.lt g16 tL.out.1,RIs.G tL.out.2 tL.out.1 g16⟩
 clear g16 Dc tL De
 by_cases a1:c1=0
 ·have HA:Hid (c1=0):=a1
  go_wp2_with fail
  refine Calls.mono (P:=Tryz.prog) (oM.out w16) ?_
  rintro e wR ⟨v17,rfl,g17,k17⟩
  have Df:Hid (G w wR):=G.trans wQ.out g17
  have tN:Hid (gN<wR.heap.size∧RIs wR gN s):=⟨G.lt g17 ry.out.1,RIs.G ry.out.2 ry.out.1 g17⟩
  have Dg:Hid _:=jC.out wR _ _ k17 ⟨gN,rfl,tN.out⟩
  clear g17 k17 wQ ry jC
  go_wp2_with fail
  refine Calls.mono (P:=Tryz.prog) Dg.out ?_
  rintro e w6 ⟨rfl,g18⟩
  have gM:Hid (G w w6):=G.trans Df.out g18
  have mF:Hid (gN<w6.heap.size∧RIs w6 gN s):=⟨G.lt g18 tN.out.1,RIs.G tN.out.2 tN.out.1 g18⟩
  clear g18 Df tN Dg
  by_cases a2:c2=0
  ·have HV:Hid (rv=T):=jo.out (Or.inl ⟨a1,a2⟩)
   clear jo tH tJ
   go_wp2_with fail
   go_ret
   exact⟨by rw[HV.out];first|done|rfl,gM.out⟩
  ·have HN:Hid (¬ (c1=0∧c2=0)):=fun k=>a2 k.2
   have a8:(c2==0)=false:=by simpa using a2
   rcases hm with rfl|rfl|rfl|rfl
   ·have dC:Hid _:=tJ.out HN.out rfl
    clear tJ HN jo tH
    go_wp2_with fail
    refine Calls.mono (P:=Tryz.prog) (dD.out _) ?_
    rintro e zk ⟨rfl,g20⟩
    go_wp2_with fail
    refine Calls.mono (P:=Tryz.prog) (fK.out zk) ?_
    rintro e mG ⟨rfl,g21⟩
    have jE:Hid (G w mG):=G.trans gM.out (G.trans g20 g21)
    have fZ:Hid (gN<mG.heap.size∧RIs mG gN s):=⟨G.lt (G.trans g20 g21) mF.out.1,RIs.G mF.out.2 mF.out.1 (G.trans g20 g21)⟩
    clear g20 g21 gM mF dD fK
    go_wp2_with fail
    by_cases hi:T+1=2047*2^52
    ·have hd:decide (T+1=2047*2^52)=true:=decide_eq_true hi
     rw[hd] at sj
     refine Calls.mono (P:=Tryz.prog) (ru.out mG hi) ?_
     rintro e zl ⟨v22,rfl,g22,k22⟩
     clear hi hd lY ru
     go_wp2_with fail
     refine Calls.mono (P:=Tryz.prog) (sj.out zl) ?_
     rintro e bN ⟨rfl,g23⟩
     have kv:Hid (G w bN):=G.trans jE.out (G.trans g22 g23)
     have gp:Hid (gN<bN.heap.size∧RIs bN gN s):=⟨G.lt (G.trans g22 g23) fZ.out.1,RIs.G fZ.out.2 fZ.out.1 (G.trans g22 g23)⟩
     have kz:Hid (PR bN v22 y):=k22.G g23
     clear g22 g23 jE fZ sj k22
     go_wp2_with fail
     have hz0:=q1p bN 40
     have ga:=(G.refl bN).alloc (.cells #[.bool false,.slice none 0 0,.bool false,.slice none 0 0] 40)
     have hsz:(bN.alloc (.cells #[.bool false,.slice none 0 0,.bool false,.slice none 0 0] 40)).heap.size=bN.heap.size+1:=by simp
     have eG:bN.heap.size<(bN.alloc (.cells #[.bool false,.slice none 0 0,.bool false,.slice none 0 0] 40)).heap.size:=by simp
     obtain⟨z1,hz1⟩:∃ z,z=bN.heap.size:=⟨_,rfl⟩
     have kC:bN.heap.size≤z1:=by omega
     rw[← hz1] at hz0 hsz eG ⊢
     clear hz1
     generalize bN.alloc (.cells #[.bool false,.slice none 0 0,.bool false,.slice none 0 0] 40)=cZ at *
     have hy0:=q1p cZ 40
     have gb:=(G.refl cZ).alloc (.cells #[.bool false,.slice none 0 0,.bool false,.slice none 0 0] 40)
     have hlt1:cZ.heap.size<(cZ.alloc (.cells #[.bool false,.slice none 0 0,.bool false,.slice none 0 0] 40)).heap.size:=by simp
     obtain⟨z2,hz2⟩:∃ z,z=cZ.heap.size:=⟨_,rfl⟩
     have kD:cZ.heap.size≤z2:=by omega
     rw[← hz2] at hy0 hlt1
     have e12:z1+1=z2:=by omega
     rw[e12]
     clear hz2 hsz e12
     generalize cZ.alloc (.cells #[.bool false,.slice none 0 0,.bool false,.slice none 0 0] 40)=iU at *
     have HZ1:Hid (z1<iU.heap.size∧RatIs iU z1 0 0):=⟨G.lt gb eG,RatIs.G hz0 eG gb⟩
     have HZ2:Hid (z2<iU.heap.size∧RatIs iU z2 0 0):=⟨hlt1,hy0⟩
     have eU:Hid (G bN iU∧bN.heap.size≤z1∧cZ.heap.size≤z2∧G cZ iU∧z1<cZ.heap.size∧RatIs cZ z1 0 0∧G bN cZ):=⟨G.trans ga gb,kC,kD,gb,eG,hz0,ga⟩
     clear hz0 hy0 ga gb eG hlt1 kC kD
     refine Calls.mono (P:=Tryz.prog) (oM.out iU) ?_
     rintro e pg ⟨v27,rfl,jF,k27⟩
     obtain⟨px,rfl,hx1,hx2⟩:=k27
     obtain⟨py,rfl,hy1,hy2⟩:=kz.out
     have eH:=G.trans eU.out.1 jF
     have HAD:Hid _:=sV.out pg z2 px py (G.lt jF HZ2.out.1) hx1 (G.lt eH hy1) (RatIs.G HZ2.out.2 HZ2.out.1 jF) hx2 (RIs.G hy2 hy1 eH)
     have iV:Hid (G cZ pg∧z2<pg.heap.size):=⟨G.trans eU.out.2.2.2.1 jF,G.lt jF HZ2.out.1⟩
     clear jF hx1 hx2 hy1 hy2 eH HZ2 HZ1 kz sV oM
     go_wp2_with fail
     refine Calls.mono (P:=Tryz.prog) HAD.out ?_
     intro e mH hs
     obtain⟨p28,rfl,tO,-,hs1,hs2⟩:=SetRat.ret iV.out.1 eU.out.2.2.1 iV.out.2 hs
     have gq:Hid (p28<mH.heap.size∧RIs mH p28 xy):=⟨hs1,hs2⟩
     have kE:Hid (G cZ mH):=tO
     clear hs hs1 hs2 tO HAD iV
     go_wp2_with fail
     refine Calls.mono (P:=Tryz.prog) (yh.out mH) ?_
     rintro e pE ⟨v29,rfl,mI,zm⟩
     obtain⟨ph,rfl,rz,su⟩:=zm
     have bO:=G.trans kE.out mI
     have qJ:Hid _:=yf.out pE z1 p28 ph (G.lt bO eU.out.2.2.2.2.1) (G.lt mI gq.out.1) rz (RatIs.G eU.out.2.2.2.2.2.1 eU.out.2.2.2.2.1 bO) (RIs.G gq.out.2 gq.out.1 mI) su
     have iW:Hid (G bN pE∧z1<pE.heap.size):=⟨G.trans eU.out.2.2.2.2.2.2 bO,G.lt bO eU.out.2.2.2.2.1⟩
     clear mI rz su bO yh yf gq kE
     go_wp2_with fail
     refine Calls.mono (P:=Tryz.prog) qJ.out ?_
     intro e tQ hs
     obtain⟨p30,rfl,mJ,-,hs1,hs2⟩:=SetRat.ret iW.out.1 eU.out.2.1 iW.out.2 hs
     have kF:Hid _:=yg.out tQ _ _ ⟨gN,rfl,G.lt mJ gp.out.1,RIs.G gp.out.2 gp.out.1 mJ⟩ ⟨p30,rfl,hs1,hs2⟩
     have kG:Hid (G w tQ):=G.trans kv.out mJ
     clear hs hs1 hs2 mJ qJ iW eU yg gp kv
     go_wp2_with fail
     refine Calls.mono (P:=Tryz.prog) kF.out ?_
     rintro e mE ⟨rfl,fM⟩
     have gM:Hid (G w mE):=G.trans kG.out fM
     clear fM kG kF
     rcases wN.out with h3|h3|h3
     ·subst h3
      have HV:Hid (rv=T):=by
       show rv=_
       rw[dC.out,if_pos (Or.inl (by decide))]
      clear dC
      go_wp2_with fail
      go_ret
      exact⟨by rw[HV.out];first|done|rfl,gM.out⟩
     ·subst h3
      by_cases a5:T%2=0
      ·have a6:(T:Int)%2=0:=by omega
       have HV:Hid (rv=T):=by
        show rv=_
        rw[dC.out]
        rw[if_pos (Or.inr ⟨rfl,HA.out,a5⟩)]
       clear dC a5
       go_wp2_with fail
       go_ret
       exact⟨by rw[HV.out];first|done|rfl,gM.out⟩
      ·have a6:(T:Int)%2=1:=by omega
       have HV:Hid (rv=T+1):=by
        show rv=_
        rw[dC.out,if_neg (by omega)]
       clear dC a5
       go_wp2_with fail
       go_ret
       exact⟨by rw[HV.out];first|done|rfl,gM.out⟩
     ·subst h3
      have HV:Hid (rv=T+1):=by
       show rv=_
       rw[dC.out,if_neg (by omega)]
      clear dC
      go_wp2_with fail
      go_ret
      exact⟨by rw[HV.out];first|done|rfl,gM.out⟩
    ·have hd:decide (T+1=2047*2^52)=false:=decide_eq_false hi
     rw[hd] at sj
     have hi2:T+1<2047*2^52:=by have:=HT1.out;omega
     have tT:Hid (∀ w1:World,_):=fun w1=>GG.out w1 hi2
     refine Calls.mono (P:=Tryz.prog) (lY.out mG) ?_
     rintro e zl ⟨v21,rfl,g22,-⟩
     clear hi hd lY ru hi2 GG
     go_wp2_with fail
     refine Calls.mono (P:=Tryz.prog) (sj.out zl) ?_
     rintro e IE ⟨rfl,g23⟩
     go_wp2_with fail
     refine Calls.mono (P:=Tryz.prog) (tT.out IE) ?_
     rintro e bN ⟨v22,rfl,g24,k22⟩
     have kv:Hid (G w bN):=G.trans jE.out (G.trans g22 (G.trans g23 g24))
     have gp:Hid (gN<bN.heap.size∧RIs bN gN s):=⟨G.lt (G.trans g22 (G.trans g23 g24)) fZ.out.1,RIs.G fZ.out.2 fZ.out.1 (G.trans g22 (G.trans g23 g24))⟩
     have kz:Hid (PR bN v22 y):=k22
     clear g22 g23 g24 jE fZ sj k22 tT
     go_wp2_with fail
     have hz0:=q1p bN 40
     have ga:=(G.refl bN).alloc (.cells #[.bool false,.slice none 0 0,.bool false,.slice none 0 0] 40)
     have hsz:(bN.alloc (.cells #[.bool false,.slice none 0 0,.bool false,.slice none 0 0] 40)).heap.size=bN.heap.size+1:=by simp
     have eG:bN.heap.size<(bN.alloc (.cells #[.bool false,.slice none 0 0,.bool false,.slice none 0 0] 40)).heap.size:=by simp
     obtain⟨z1,hz1⟩:∃ z,z=bN.heap.size:=⟨_,rfl⟩
     have kC:bN.heap.size≤z1:=by omega
     rw[← hz1] at hz0 hsz eG ⊢
     clear hz1
     generalize bN.alloc (.cells #[.bool false,.slice none 0 0,.bool false,.slice none 0 0] 40)=cZ at *
     have hy0:=q1p cZ 40
     have gb:=(G.refl cZ).alloc (.cells #[.bool false,.slice none 0 0,.bool false,.slice none 0 0] 40)
     have hlt1:cZ.heap.size<(cZ.alloc (.cells #[.bool false,.slice none 0 0,.bool false,.slice none 0 0] 40)).heap.size:=by simp
     obtain⟨z2,hz2⟩:∃ z,z=cZ.heap.size:=⟨_,rfl⟩
     have kD:cZ.heap.size≤z2:=by omega
     rw[← hz2] at hy0 hlt1
     have e12:z1+1=z2:=by omega
     rw[e12]
     clear hz2 hsz e12
     generalize cZ.alloc (.cells #[.bool false,.slice none 0 0,.bool false,.slice none 0 0] 40)=iU at *
     have HZ1:Hid (z1<iU.heap.size∧RatIs iU z1 0 0):=⟨G.lt gb eG,RatIs.G hz0 eG gb⟩
     have HZ2:Hid (z2<iU.heap.size∧RatIs iU z2 0 0):=⟨hlt1,hy0⟩
     have eU:Hid (G bN iU∧bN.heap.size≤z1∧cZ.heap.size≤z2∧G cZ iU∧z1<cZ.heap.size∧RatIs cZ z1 0 0∧G bN cZ):=⟨G.trans ga gb,kC,kD,gb,eG,hz0,ga⟩
     clear hz0 hy0 ga gb eG hlt1 kC kD
     refine Calls.mono (P:=Tryz.prog) (oM.out iU) ?_
     rintro e pg ⟨v27,rfl,jF,k27⟩
     obtain⟨px,rfl,hx1,hx2⟩:=k27
     obtain⟨py,rfl,hy1,hy2⟩:=kz.out
     have eH:=G.trans eU.out.1 jF
     have HAD:Hid _:=sV.out pg z2 px py (G.lt jF HZ2.out.1) hx1 (G.lt eH hy1) (RatIs.G HZ2.out.2 HZ2.out.1 jF) hx2 (RIs.G hy2 hy1 eH)
     have iV:Hid (G cZ pg∧z2<pg.heap.size):=⟨G.trans eU.out.2.2.2.1 jF,G.lt jF HZ2.out.1⟩
     clear jF hx1 hx2 hy1 hy2 eH HZ2 HZ1 kz sV oM
     go_wp2_with fail
     refine Calls.mono (P:=Tryz.prog) HAD.out ?_
     intro e mH hs
     obtain⟨p28,rfl,tO,-,hs1,hs2⟩:=SetRat.ret iV.out.1 eU.out.2.2.1 iV.out.2 hs
     have gq:Hid (p28<mH.heap.size∧RIs mH p28 xy):=⟨hs1,hs2⟩
     have kE:Hid (G cZ mH):=tO
     clear hs hs1 hs2 tO HAD iV
     go_wp2_with fail
     refine Calls.mono (P:=Tryz.prog) (yh.out mH) ?_
     rintro e pE ⟨v29,rfl,mI,zm⟩
     obtain⟨ph,rfl,rz,su⟩:=zm
     have bO:=G.trans kE.out mI
     have qJ:Hid _:=yf.out pE z1 p28 ph (G.lt bO eU.out.2.2.2.2.1) (G.lt mI gq.out.1) rz (RatIs.G eU.out.2.2.2.2.2.1 eU.out.2.2.2.2.1 bO) (RIs.G gq.out.2 gq.out.1 mI) su
     have iW:Hid (G bN pE∧z1<pE.heap.size):=⟨G.trans eU.out.2.2.2.2.2.2 bO,G.lt bO eU.out.2.2.2.2.1⟩
     clear mI rz su bO yh yf gq kE
     go_wp2_with fail
     refine Calls.mono (P:=Tryz.prog) qJ.out ?_
     intro e tQ hs
     obtain⟨p30,rfl,mJ,-,hs1,hs2⟩:=SetRat.ret iW.out.1 eU.out.2.1 iW.out.2 hs
     have kF:Hid _:=yg.out tQ _ _ ⟨gN,rfl,G.lt mJ gp.out.1,RIs.G gp.out.2 gp.out.1 mJ⟩ ⟨p30,rfl,hs1,hs2⟩
     have kG:Hid (G w tQ):=G.trans kv.out mJ
     clear hs hs1 hs2 mJ qJ iW eU yg gp kv
     go_wp2_with fail
     refine Calls.mono (P:=Tryz.prog) kF.out ?_
     rintro e mE ⟨rfl,fM⟩
     have gM:Hid (G w mE):=G.trans kG.out fM
     clear fM kG kF
     rcases wN.out with h3|h3|h3
     ·subst h3
      have HV:Hid (rv=T):=by
       show rv=_
       rw[dC.out,if_pos (Or.inl (by decide))]
      clear dC
      go_wp2_with fail
      go_ret
      exact⟨by rw[HV.out];first|done|rfl,gM.out⟩
     ·subst h3
      by_cases a5:T%2=0
      ·have a6:(T:Int)%2=0:=by omega
       have HV:Hid (rv=T):=by
        show rv=_
        rw[dC.out]
        rw[if_pos (Or.inr ⟨rfl,HA.out,a5⟩)]
       clear dC a5
       go_wp2_with fail
       go_ret
       exact⟨by rw[HV.out];first|done|rfl,gM.out⟩
      ·have a6:(T:Int)%2=1:=by omega
       have HV:Hid (rv=T+1):=by
        show rv=_
        rw[dC.out,if_neg (by omega)]
       clear dC a5
       go_wp2_with fail
       go_ret
       exact⟨by rw[HV.out];first|done|rfl,gM.out⟩
     ·subst h3
      have HV:Hid (rv=T+1):=by
       show rv=_
       rw[dC.out,if_neg (by omega)]
      clear dC
      go_wp2_with fail
      go_ret
      exact⟨by rw[HV.out];first|done|rfl,gM.out⟩
   ·have HV:Hid (rv=T):=jo.out (Or.inr (Or.inl rfl))
    clear jo tH tJ HN
    go_wp2_with fail
    go_ret
    exact⟨by rw[HV.out];first|done|rfl,gM.out⟩
   ·have HV:Hid (rv=T+1):=tH.out HN.out rfl
    clear jo tH tJ HN
    go_wp2_with fail
    refine Calls.mono (P:=Tryz.prog) (dD.out _) ?_
    rintro e zk ⟨rfl,g20⟩
    go_wp2_with fail
    refine Calls.mono (P:=Tryz.prog) (fK.out zk) ?_
    rintro e mG ⟨rfl,g21⟩
    have jE:Hid (G w mG):=G.trans gM.out (G.trans g20 g21)
    have fZ:Hid (gN<mG.heap.size∧RIs mG gN s):=⟨G.lt (G.trans g20 g21) mF.out.1,RIs.G mF.out.2 mF.out.1 (G.trans g20 g21)⟩
    clear g20 g21 gM mF dD fK
    go_wp2_with fail
    go_ret
    exact⟨by rw[HV.out];first|done|rfl,jE.out⟩
   ·have HV:Hid (rv=T):=jo.out (Or.inr (Or.inr rfl))
    clear jo tH tJ HN
    go_wp2_with fail
    go_ret
    exact⟨by rw[HV.out];first|done|rfl,gM.out⟩
 ·have HN:Hid (¬ (c1=0∧c2=0)):=fun k=>a1 k.1
  have HA:Hid (¬ c1=0):=a1
  have a8:(c1==0)=false:=by simpa using a1
  have gM:Hid (G w w16):=wQ.out
  have mF:Hid (gN<w16.heap.size∧RIs w16 gN s):=ry.out
  clear wQ ry jC
  rcases hm with rfl|rfl|rfl|rfl
  ·have dC:Hid _:=tJ.out HN.out rfl
   clear tJ HN jo tH
   go_wp2_with fail
   refine Calls.mono (P:=Tryz.prog) (dD.out _) ?_
   rintro e zk ⟨rfl,g20⟩
   go_wp2_with fail
   refine Calls.mono (P:=Tryz.prog) (fK.out zk) ?_
   rintro e mG ⟨rfl,g21⟩
   have jE:Hid (G w mG):=G.trans gM.out (G.trans g20 g21)
   have fZ:Hid (gN<mG.heap.size∧RIs mG gN s):=⟨G.lt (G.trans g20 g21) mF.out.1,RIs.G mF.out.2 mF.out.1 (G.trans g20 g21)⟩
   clear g20 g21 gM mF dD fK
   go_wp2_with fail
   by_cases hi:T+1=2047*2^52
   ·have hd:decide (T+1=2047*2^52)=true:=decide_eq_true hi
    rw[hd] at sj
    refine Calls.mono (P:=Tryz.prog) (ru.out mG hi) ?_
    rintro e zl ⟨v22,rfl,g22,k22⟩
    clear hi hd lY ru
    go_wp2_with fail
    refine Calls.mono (P:=Tryz.prog) (sj.out zl) ?_
    rintro e bN ⟨rfl,g23⟩
    have kv:Hid (G w bN):=G.trans jE.out (G.trans g22 g23)
    have gp:Hid (gN<bN.heap.size∧RIs bN gN s):=⟨G.lt (G.trans g22 g23) fZ.out.1,RIs.G fZ.out.2 fZ.out.1 (G.trans g22 g23)⟩
    have kz:Hid (PR bN v22 y):=k22.G g23
    clear g22 g23 jE fZ sj k22
    go_wp2_with fail
    have hz0:=q1p bN 40
    have ga:=(G.refl bN).alloc (.cells #[.bool false,.slice none 0 0,.bool false,.slice none 0 0] 40)
    have hsz:(bN.alloc (.cells #[.bool false,.slice none 0 0,.bool false,.slice none 0 0] 40)).heap.size=bN.heap.size+1:=by simp
    have eG:bN.heap.size<(bN.alloc (.cells #[.bool false,.slice none 0 0,.bool false,.slice none 0 0] 40)).heap.size:=by simp
    obtain⟨z1,hz1⟩:∃ z,z=bN.heap.size:=⟨_,rfl⟩
    have kC:bN.heap.size≤z1:=by omega
    rw[← hz1] at hz0 hsz eG ⊢
    clear hz1
    generalize bN.alloc (.cells #[.bool false,.slice none 0 0,.bool false,.slice none 0 0] 40)=cZ at *
    have hy0:=q1p cZ 40
    have gb:=(G.refl cZ).alloc (.cells #[.bool false,.slice none 0 0,.bool false,.slice none 0 0] 40)
    have hlt1:cZ.heap.size<(cZ.alloc (.cells #[.bool false,.slice none 0 0,.bool false,.slice none 0 0] 40)).heap.size:=by simp
    obtain⟨z2,hz2⟩:∃ z,z=cZ.heap.size:=⟨_,rfl⟩
    have kD:cZ.heap.size≤z2:=by omega
    rw[← hz2] at hy0 hlt1
    have e12:z1+1=z2:=by omega
    rw[e12]
    clear hz2 hsz e12
    generalize cZ.alloc (.cells #[.bool false,.slice none 0 0,.bool false,.slice none 0 0] 40)=iU at *
    have HZ1:Hid (z1<iU.heap.size∧RatIs iU z1 0 0):=⟨G.lt gb eG,RatIs.G hz0 eG gb⟩
    have HZ2:Hid (z2<iU.heap.size∧RatIs iU z2 0 0):=⟨hlt1,hy0⟩
    have eU:Hid (G bN iU∧bN.heap.size≤z1∧cZ.heap.size≤z2∧G cZ iU∧z1<cZ.heap.size∧RatIs cZ z1 0 0∧G bN cZ):=⟨G.trans ga gb,kC,kD,gb,eG,hz0,ga⟩
    clear hz0 hy0 ga gb eG hlt1 kC kD
    refine Calls.mono (P:=Tryz.prog) (oM.out iU) ?_
    rintro e pg ⟨v27,rfl,jF,k27⟩
    obtain⟨px,rfl,hx1,hx2⟩:=k27
    obtain⟨py,rfl,hy1,hy2⟩:=kz.out
    have eH:=G.trans eU.out.1 jF
    have HAD:Hid _:=sV.out pg z2 px py (G.lt jF HZ2.out.1) hx1 (G.lt eH hy1) (RatIs.G HZ2.out.2 HZ2.out.1 jF) hx2 (RIs.G hy2 hy1 eH)
    have iV:Hid (G cZ pg∧z2<pg.heap.size):=⟨G.trans eU.out.2.2.2.1 jF,G.lt jF HZ2.out.1⟩
    clear jF hx1 hx2 hy1 hy2 eH HZ2 HZ1 kz sV oM
    go_wp2_with fail
    refine Calls.mono (P:=Tryz.prog) HAD.out ?_
    intro e mH hs
    obtain⟨p28,rfl,tO,-,hs1,hs2⟩:=SetRat.ret iV.out.1 eU.out.2.2.1 iV.out.2 hs
    have gq:Hid (p28<mH.heap.size∧RIs mH p28 xy):=⟨hs1,hs2⟩
    have kE:Hid (G cZ mH):=tO
    clear hs hs1 hs2 tO HAD iV
    go_wp2_with fail
    refine Calls.mono (P:=Tryz.prog) (yh.out mH) ?_
    rintro e pE ⟨v29,rfl,mI,zm⟩
    obtain⟨ph,rfl,rz,su⟩:=zm
    have bO:=G.trans kE.out mI
    have qJ:Hid _:=yf.out pE z1 p28 ph (G.lt bO eU.out.2.2.2.2.1) (G.lt mI gq.out.1) rz (RatIs.G eU.out.2.2.2.2.2.1 eU.out.2.2.2.2.1 bO) (RIs.G gq.out.2 gq.out.1 mI) su
    have iW:Hid (G bN pE∧z1<pE.heap.size):=⟨G.trans eU.out.2.2.2.2.2.2 bO,G.lt bO eU.out.2.2.2.2.1⟩
    clear mI rz su bO yh yf gq kE
    go_wp2_with fail
    refine Calls.mono (P:=Tryz.prog) qJ.out ?_
    intro e tQ hs
    obtain⟨p30,rfl,mJ,-,hs1,hs2⟩:=SetRat.ret iW.out.1 eU.out.2.1 iW.out.2 hs
    have kF:Hid _:=yg.out tQ _ _ ⟨gN,rfl,G.lt mJ gp.out.1,RIs.G gp.out.2 gp.out.1 mJ⟩ ⟨p30,rfl,hs1,hs2⟩
    have kG:Hid (G w tQ):=G.trans kv.out mJ
    clear hs hs1 hs2 mJ qJ iW eU yg gp kv
    go_wp2_with fail
    refine Calls.mono (P:=Tryz.prog) kF.out ?_
    rintro e mE ⟨rfl,fM⟩
    have gM:Hid (G w mE):=G.trans kG.out fM
    clear fM kG kF
    rcases wN.out with h3|h3|h3
    ·subst h3
     have HV:Hid (rv=T):=by
      show rv=_
      rw[dC.out,if_pos (Or.inl (by decide))]
     clear dC
     go_wp2_with fail
     go_ret
     exact⟨by rw[HV.out];first|done|rfl,gM.out⟩
    ·subst h3
     by_cases a5:T%2=0
     ·have a6:(T:Int)%2=0:=by omega
      have HV:Hid (rv=T+1):=by
       show rv=_
       rw[dC.out]
       rw[if_neg (fun k=>by have:=HA.out;omega)]
      clear dC a5
      go_wp2_with fail
      go_ret
      exact⟨by rw[HV.out];first|done|rfl,gM.out⟩
     ·have a6:(T:Int)%2=1:=by omega
      have HV:Hid (rv=T+1):=by
       show rv=_
       rw[dC.out,if_neg (by omega)]
      clear dC a5
      go_wp2_with fail
      go_ret
      exact⟨by rw[HV.out];first|done|rfl,gM.out⟩
    ·subst h3
     have HV:Hid (rv=T+1):=by
      show rv=_
      rw[dC.out,if_neg (by omega)]
     clear dC
     go_wp2_with fail
     go_ret
     exact⟨by rw[HV.out];first|done|rfl,gM.out⟩
   ·have hd:decide (T+1=2047*2^52)=false:=decide_eq_false hi
    rw[hd] at sj
    have hi2:T+1<2047*2^52:=by have:=HT1.out;omega
    have tT:Hid (∀ w1:World,_):=fun w1=>GG.out w1 hi2
    refine Calls.mono (P:=Tryz.prog) (lY.out mG) ?_
    rintro e zl ⟨v21,rfl,g22,-⟩
    clear hi hd lY ru hi2 GG
    go_wp2_with fail
    refine Calls.mono (P:=Tryz.prog) (sj.out zl) ?_
    rintro e IE ⟨rfl,g23⟩
    go_wp2_with fail
    refine Calls.mono (P:=Tryz.prog) (tT.out IE) ?_
    rintro e bN ⟨v22,rfl,g24,k22⟩
    have kv:Hid (G w bN):=G.trans jE.out (G.trans g22 (G.trans g23 g24))
    have gp:Hid (gN<bN.heap.size∧RIs bN gN s):=⟨G.lt (G.trans g22 (G.trans g23 g24)) fZ.out.1,RIs.G fZ.out.2 fZ.out.1 (G.trans g22 (G.trans g23 g24))⟩
    have kz:Hid (PR bN v22 y):=k22
    clear g22 g23 g24 jE fZ sj k22 tT
    go_wp2_with fail
    have hz0:=q1p bN 40
    have ga:=(G.refl bN).alloc (.cells #[.bool false,.slice none 0 0,.bool false,.slice none 0 0] 40)
    have hsz:(bN.alloc (.cells #[.bool false,.slice none 0 0,.bool false,.slice none 0 0] 40)).heap.size=bN.heap.size+1:=by simp
    have eG:bN.heap.size<(bN.alloc (.cells #[.bool false,.slice none 0 0,.bool false,.slice none 0 0] 40)).heap.size:=by simp
    obtain⟨z1,hz1⟩:∃ z,z=bN.heap.size:=⟨_,rfl⟩
    have kC:bN.heap.size≤z1:=by omega
    rw[← hz1] at hz0 hsz eG ⊢
    clear hz1
    generalize bN.alloc (.cells #[.bool false,.slice none 0 0,.bool false,.slice none 0 0] 40)=cZ at *
    have hy0:=q1p cZ 40
    have gb:=(G.refl cZ).alloc (.cells #[.bool false,.slice none 0 0,.bool false,.slice none 0 0] 40)
    have hlt1:cZ.heap.size<(cZ.alloc (.cells #[.bool false,.slice none 0 0,.bool false,.slice none 0 0] 40)).heap.size:=by simp
    obtain⟨z2,hz2⟩:∃ z,z=cZ.heap.size:=⟨_,rfl⟩
    have kD:cZ.heap.size≤z2:=by omega
    rw[← hz2] at hy0 hlt1
    have e12:z1+1=z2:=by omega
    rw[e12]
    clear hz2 hsz e12
    generalize cZ.alloc (.cells #[.bool false,.slice none 0 0,.bool false,.slice none 0 0] 40)=iU at *
    have HZ1:Hid (z1<iU.heap.size∧RatIs iU z1 0 0):=⟨G.lt gb eG,RatIs.G hz0 eG gb⟩
    have HZ2:Hid (z2<iU.heap.size∧RatIs iU z2 0 0):=⟨hlt1,hy0⟩
    have eU:Hid (G bN iU∧bN.heap.size≤z1∧cZ.heap.size≤z2∧G cZ iU∧z1<cZ.heap.size∧RatIs cZ z1 0 0∧G bN cZ):=⟨G.trans ga gb,kC,kD,gb,eG,hz0,ga⟩
    clear hz0 hy0 ga gb eG hlt1 kC kD
    refine Calls.mono (P:=Tryz.prog) (oM.out iU) ?_
    rintro e pg ⟨v27,rfl,jF,k27⟩
    obtain⟨px,rfl,hx1,hx2⟩:=k27
    obtain⟨py,rfl,hy1,hy2⟩:=kz.out
    have eH:=G.trans eU.out.1 jF
    have HAD:Hid _:=sV.out pg z2 px py (G.lt jF HZ2.out.1) hx1 (G.lt eH hy1) (RatIs.G HZ2.out.2 HZ2.out.1 jF) hx2 (RIs.G hy2 hy1 eH)
    have iV:Hid (G cZ pg∧z2<pg.heap.size):=⟨G.trans eU.out.2.2.2.1 jF,G.lt jF HZ2.out.1⟩
    clear jF hx1 hx2 hy1 hy2 eH HZ2 HZ1 kz sV oM
    go_wp2_with fail
    refine Calls.mono (P:=Tryz.prog) HAD.out ?_
    intro e mH hs
    obtain⟨p28,rfl,tO,-,hs1,hs2⟩:=SetRat.ret iV.out.1 eU.out.2.2.1 iV.out.2 hs
    have gq:Hid (p28<mH.heap.size∧RIs mH p28 xy):=⟨hs1,hs2⟩
    have kE:Hid (G cZ mH):=tO
    clear hs hs1 hs2 tO HAD iV
    go_wp2_with fail
    refine Calls.mono (P:=Tryz.prog) (yh.out mH) ?_
    rintro e pE ⟨v29,rfl,mI,zm⟩
    obtain⟨ph,rfl,rz,su⟩:=zm
    have bO:=G.trans kE.out mI
    have qJ:Hid _:=yf.out pE z1 p28 ph (G.lt bO eU.out.2.2.2.2.1) (G.lt mI gq.out.1) rz (RatIs.G eU.out.2.2.2.2.2.1 eU.out.2.2.2.2.1 bO) (RIs.G gq.out.2 gq.out.1 mI) su
    have iW:Hid (G bN pE∧z1<pE.heap.size):=⟨G.trans eU.out.2.2.2.2.2.2 bO,G.lt bO eU.out.2.2.2.2.1⟩
    clear mI rz su bO yh yf gq kE
    go_wp2_with fail
    refine Calls.mono (P:=Tryz.prog) qJ.out ?_
    intro e tQ hs
    obtain⟨p30,rfl,mJ,-,hs1,hs2⟩:=SetRat.ret iW.out.1 eU.out.2.1 iW.out.2 hs
    have kF:Hid _:=yg.out tQ _ _ ⟨gN,rfl,G.lt mJ gp.out.1,RIs.G gp.out.2 gp.out.1 mJ⟩ ⟨p30,rfl,hs1,hs2⟩
    have kG:Hid (G w tQ):=G.trans kv.out mJ
    clear hs hs1 hs2 mJ qJ iW eU yg gp kv
    go_wp2_with fail
    refine Calls.mono (P:=Tryz.prog) kF.out ?_
    rintro e mE ⟨rfl,fM⟩
    have gM:Hid (G w mE):=G.trans kG.out fM
    clear fM kG kF
    rcases wN.out with h3|h3|h3
    ·subst h3
     have HV:Hid (rv=T):=by
      show rv=_
      rw[dC.out,if_pos (Or.inl (by decide))]
     clear dC
     go_wp2_with fail
     go_ret
     exact⟨by rw[HV.out];first|done|rfl,gM.out⟩
    ·subst h3
     by_cases a5:T%2=0
     ·have a6:(T:Int)%2=0:=by omega
      have HV:Hid (rv=T+1):=by
       show rv=_
       rw[dC.out]
       rw[if_neg (fun k=>by have:=HA.out;omega)]
      clear dC a5
      go_wp2_with fail
      go_ret
      exact⟨by rw[HV.out];first|done|rfl,gM.out⟩
     ·have a6:(T:Int)%2=1:=by omega
      have HV:Hid (rv=T+1):=by
       show rv=_
       rw[dC.out,if_neg (by omega)]
      clear dC a5
      go_wp2_with fail
      go_ret
      exact⟨by rw[HV.out];first|done|rfl,gM.out⟩
    ·subst h3
     have HV:Hid (rv=T+1):=by
      show rv=_
      rw[dC.out,if_neg (by omega)]
     clear dC
     go_wp2_with fail
     go_ret
     exact⟨by rw[HV.out];first|done|rfl,gM.out⟩
  ·have HV:Hid (rv=T):=jo.out (Or.inr (Or.inl rfl))
   clear jo tH tJ HN
   go_wp2_with fail
   go_ret
   exact⟨by rw[HV.out];first|done|rfl,gM.out⟩
  ·have HV:Hid (rv=T+1):=tH.out HN.out rfl
   clear jo tH tJ HN
   go_wp2_with fail
   refine Calls.mono (P:=Tryz.prog) (dD.out _) ?_
   rintro e zk ⟨rfl,g20⟩
   go_wp2_with fail
   refine Calls.mono (P:=Tryz.prog) (fK.out zk) ?_
   rintro e mG ⟨rfl,g21⟩
   have jE:Hid (G w mG):=G.trans gM.out (G.trans g20 g21)
   have fZ:Hid (gN<mG.heap.size∧RIs mG gN s):=⟨G.lt (G.trans g20 g21) mF.out.1,RIs.G mF.out.2 mF.out.1 (G.trans g20 g21)⟩
   clear g20 g21 gM mF dD fK
   go_wp2_with fail
   go_ret
   exact⟨by rw[HV.out];first|done|rfl,jE.out⟩
  ·have HV:Hid (rv=T):=jo.out (Or.inr (Or.inr rfl))
   clear jo tH tJ HN
   go_wp2_with fail
   go_ret
   exact⟨by rw[HV.out];first|done|rfl,gM.out⟩
end Go.Proofs.YtemmkninoiclfaaGreatDoor.EN
