/- What is proved here: the reference's root of a fraction that isn't below 0, its walk, over this seat's translation. -/
import Derived.Test.YtbfjihniphldaaaGreatDoorC14
import Derived.Test.YtbfjihniphldaaaGreatDoorC40
namespace Go.Proofs.YtbfjihniphldaaaGreatDoor.EN
open Go.ChangeShapes Go.WideShapes Go.ChangeAt Go.RowKit
attribute [local go_sem] q0i q0q
set_option maxHeartbeats 4000000 in
set_option maxRecDepth 10000 in
theorem q6e (w:World) (u:Value) (q:Rat) (m:Int) (h0:0≤q.num) (hq:QB q 80) (hm:m=1∨m=2∨m=3∨m=4) {E T F H S N:Nat} {s:Rat} (hE:E=2^1074) (h:RootSet q E F H S N T s) (hu:PR w u q):
  Calls Tryz.prog 20 #[u,.int .i64 m] w fun e w'=>e= .returned (.float .f64 (q2g m E q.num.natAbs q.den T))∧G w w':=by
 obtain⟨b1,b2,b3,b4,b5,b6⟩:=qaC h hq;obtain⟨K8,Md⟩:∃ k:Nat,k=80:=⟨_,rfl⟩;have hqk:QB q K8:=by rw[Md];exact hq
 have Me:q.den<2^(32*235):=by
  obtain⟨m8,fK⟩:∃ n:Nat,n=32*235:=⟨_,rfl⟩;rw[← fK];exact Nat.lt_of_lt_of_le (qb32 hqk).2 (Nat.pow_le_pow_right (by omega) (by omega))
 obtain⟨k1,hk1⟩:∃ k:Nat,k=1200:=⟨_,rfl⟩;obtain⟨k2,hk2⟩:∃ k:Nat,k=2400:=⟨_,rfl⟩;have hx:=h.x;rw[← hk1] at hx;have uT:E*F*(E*F)=2^k2:=by rw[hx,← Nat.pow_add];congr 1;omega
 have hX0:0<E*F:=Nat.mul_pos h.e0 h.f0;obtain⟨b,rfl,hb,hr⟩:=hu;have HR:Hid (RIs w b q):=hr;have Mf:Hid (∀ w1 p,G w w1→NI w w1 p 0→Calls Tryz.prog 68 #[.pointer (some ⟨p,0,none⟩),.pointer (some ⟨b,0,none⟩),.int .u64 2400] w1 (SetTo w1 p 0 ((q.num.natAbs*(E*F*(E*F)):Nat):Int))):=fun w1 p g hp=>by
  have k:=q1L w1 p 0 b 0 k2 0 q.num (2*K8) (by omega) (by omega) (qb32 hqk).1 hp.2.1 (G.lt g hb) hp.2.2 (hr.G hb g).1;rw[show (k2:Int)=2400 from by omega,show q.num*2^k2=((q.num.natAbs*(E*F*(E*F)):Nat):Int) from by rw[uT,Int.natCast_mul,← q7r h0,Int.natCast_pow];rfl] at k;exact k
 have HDn:Hid (∀ w1,G w w1→Calls Tryz.prog 71 #[.pointer (some ⟨b,0,none⟩)] w1 (RetI w1 (q.den:Int))):=fun w1 g=>qaR w1 b q.num q.den (2*K8) (by omega) (qb32 hqk).2 q.den_pos (G.lt g hb) (hr.G hb g);have Mg:Hid (∀ w1 p d,NI w w1 p ((q.num.natAbs*(E*F*(E*F)):Nat):Int)→d<w1.heap.size→IntIs w1 d 0 (q.den:Int)→Calls Tryz.prog 70 #[.pointer (some ⟨p,0,none⟩),.pointer (some ⟨p,0,none⟩),.pointer (some ⟨d,0,none⟩)] w1 (SetTo w1 p 0 (N:Int))):=fun w1 p d hp hd hi=>by
  have k:=qaV w1 p 0 p 0 d 0 _ _ (q.den:Int) 235 (by omega) (by rw[Int.natAbs_natCast];exact b1) (by rw[Int.natAbs_natCast];exact Me) (by have:=q.den_pos;omega) hp.2.1 hp.2.1 hd hp.2.2 hp.2.2 hi;rw[show Int.tdiv ((q.num.natAbs*(E*F*(E*F)):Nat):Int) (q.den:Int)=(N:Int) from by rw[h.n];rfl] at k;exact k
 have Mh:Hid (∀ w1 p ps,ps<w1.heap.size→p<w1.heap.size→IntIs w1 ps 0 0→IntIs w1 p 0 (N:Int)→Calls Tryz.prog 72 #[.pointer (some ⟨ps,0,none⟩),.pointer (some ⟨p,0,none⟩)] w1 (SetTo w1 ps 0 (S:Int))):=fun w1 p ps hps hp hi hn=>
  qax w1 ps 0 p 0 0 N S 235 (by omega) (by omega) b2 h.r1 h.r2 hps hp hi hn
 have HL2:Hid (∀ w1 pl po,pl<w1.heap.size→po<w1.heap.size→IntIs w1 pl 0 0→IntIs w1 po 0 1→Calls Tryz.prog 68 #[.pointer (some ⟨pl,0,none⟩),.pointer (some ⟨po,0,none⟩),.int .u64 1200] w1 (SetTo w1 pl 0 ((E*F:Nat):Int))):=fun w1 pl po hpl hpo hi hj=>by
  have k:=q1L w1 pl 0 po 0 k1 0 1 1 (by omega) (by omega) (by decide) hpl hpo hi hj;rw[show (k1:Int)=1200 from by omega,show (1:Int)*2^k1=((E*F:Nat):Int) from by rw[hx,Int.one_mul,Int.natCast_pow];rfl] at k;exact k
 have wo:Hid (∀ w1 pz ps pl,Rec w1 pz [.bool false,.slice none 0 0,.bool false,.slice none 0 0]→ps<w1.heap.size→IntIs w1 ps 0 (S:Int)→pl<w1.heap.size→IntIs w1 pl 0 ((E*F:Nat):Int)→
   Calls Tryz.prog 49 #[.pointer (some ⟨pz,0,none⟩),.pointer (some ⟨ps,0,none⟩),.pointer (some ⟨pl,0,none⟩)] w1 (SetRat w1 pz s)):=fun w1 pz ps pl hz hps his hpl hil=>by
  have k:=q2q w1 pz ps 0 pl 0 (S:Int) ((E*F:Nat):Int) 235 (by omega) (by rw[Int.natAbs_natCast];exact b3) (by rw[Int.natAbs_natCast];exact b4) (by omega) hps hpl hz his hil;rw[show ((S:Int):Rat)/(((E*F:Nat):Int):Rat)=s from by rw[h.sr,Rat.mkRat_eq_div,Rat.intCast_natCast (E*F)]] at k;exact k
 have Mi:Hid (∀ w1 pz ps,pz<w1.heap.size→ps<w1.heap.size→RatIs w1 pz 0 0→RIs w1 ps s→Calls Tryz.prog 14 #[.pointer (some ⟨pz,0,none⟩),.pointer (some ⟨ps,0,none⟩),.pointer (some ⟨ps,0,none⟩)] w1 (SetRat w1 pz (s*s))):=fun w1 pz ps hpz hps hz hi=>
  q82 w1 pz ps ps 0 0 s s 80 (by omega) b5 b5 hpz hps hps hz hi hi
 obtain⟨c1,hc1⟩:∃ c,c=((s*s).num*q.den-q.num*(s*s).den).sign:=⟨_,rfl⟩;have lY:Hid (∀ w1 v,G w w1→PR w1 v (s*s)→Calls Tryz.prog 65 #[v,.pointer (some ⟨b,0,none⟩)] w1 fun e w'=>e= .returned (.int .i64 c1)∧G w1 w'):=fun w1 v g hv=>by
  rw[hc1];exact q3m w1 v _ (s*s) q 160 (by omega) b6 (hq.mono (by omega)) hv ⟨b,rfl,G.lt g hb,hr.G hb g⟩
 have hs1:=q9j h h0;rw[← hc1] at hs1;have BF:Hid (∀ w1 v,PR w1 v s→Calls Tryz.prog 18 #[v,.int .i64 2] w1 fun e w'=>e= .returned (.float .f64 T)∧G w1 w'):=fun w1 v hv=>q8X w1 v h b5 hv;have ht1:=h.t1;obtain⟨x,BG⟩:∃ x:Rat,x=mkRat (FT.v T:Int) E:=⟨_,rfl⟩;obtain⟨y,BH⟩:∃ y:Rat,y=mkRat (FT.v (T+1):Int) E:=⟨_,rfl⟩;obtain⟨qx,qy,Mj,qm⟩:=qbB hE ht1 BG BH;have um:Hid (∀ w1,Calls Tryz.prog 10 #[.float .f64 T] w1 (RetP w1 x)):=fun w1=>by rw[BG];exact q9x w1 hE ht1
 obtain⟨c2,hc2⟩:∃ c,c=(x.num*s.den-s.num*x.den).sign:=⟨_,rfl⟩;have iQ:Hid (∀ w1 v v2,PR w1 v x→PR w1 v2 s→Calls Tryz.prog 65 #[v,v2] w1 fun e w'=>e= .returned (.int .i64 c2)∧G w1 w'):=fun w1 v v2 hv hv2=>by
  rw[hc2];exact q3m w1 v v2 x s 80 (by omega) qx b5 hv hv2
 have hs2:=qar h BG;rw[← hc2] at hs2;have dm:Hid (∀ w1:World,Calls Tryz.prog 66 #[.int .i64 1] w1 fun e w'=>e= .returned (.float .f64 FT.infR)∧G w1 w'):=fun w1=>q92 1 w1 (by omega);have fI:Hid (∀ w1:World,Calls Tryz.prog 39 #[.float .f64 T,.float .f64 FT.infR] w1 fun e w'=>e= .returned (.float .f64 (T+1))∧G w1 w'):=fun w1=>by
  have k:=q0X T w1 (by omega);rw[show T=FT.wrd false T from rfl,q7x ht1] at k;exact k
 have Av:Hid (∀ w1:World,Calls Tryz.prog 42 #[.float .f64 (T+1),.int .i64 0] w1 fun e w'=>e= .returned (.bool (decide (T+1=2047*2^52)))∧G w1 w'):=fun w1=>by
  have k:=q2W (T+1) w1 (by omega);rw[FT.rung_small (by omega)] at k;exact k
 have xB:Hid (∀ w1,T+1=2047*2^52→Calls Tryz.prog 74 #[.int .i64 1024] w1 (RetP w1 y)):=fun w1 hi=>by
  have k:=q9G w1;rw[qaZ hE,← hi,← BH] at k;exact k
 have qU:Hid (∀ w1,Calls Tryz.prog 74 #[.int .i64 1024] w1 (RetP w1 (mkRat ((2^1024:Nat):Int) 1))):=fun w1=>q9G w1;have Mk:Hid (∀ w1,T+1<2047*2^52→Calls Tryz.prog 10 #[.float .f64 (T+1)] w1 (RetP w1 y)):=fun w1 hi=>by rw[BH];exact q9x w1 hE hi
 have Bj:Hid (∀ w1 pz px py,pz<w1.heap.size→px<w1.heap.size→py<w1.heap.size→RatIs w1 pz 0 0→RIs w1 px x→RIs w1 py y→Calls Tryz.prog 12 #[.pointer (some ⟨pz,0,none⟩),.pointer (some ⟨px,0,none⟩),.pointer (some ⟨py,0,none⟩)] w1 (SetRat w1 pz (x+y))):=fun w1 pz px py k1 k2 k3 k4 k5 k6=>
  q9A w1 pz px py 0 0 x y 80 (by omega) qx qy k1 k2 k3 k4 k5 k6
 have Ml:Hid (∀ w1 pz px py,pz<w1.heap.size→px<w1.heap.size→py<w1.heap.size→RatIs w1 pz 0 0→RIs w1 px (x+y)→RIs w1 py (mkRat 1 2)→Calls Tryz.prog 14 #[.pointer (some ⟨pz,0,none⟩),.pointer (some ⟨px,0,none⟩),.pointer (some ⟨py,0,none⟩)] w1 (SetRat w1 pz ((x+y)*mkRat 1 2))):=fun w1 pz px py k1 k2 k3 k4 k5 k6=>
  q82 w1 pz px py 0 0 (x+y) (mkRat 1 2) 80 (by omega) Mj ⟨by decide+kernel,by decide+kernel⟩ k1 k2 k3 k4 k5 k6
 obtain⟨c3,hc3⟩:∃ c,c=(s.num*((x+y)*mkRat 1 2).den-((x+y)*mkRat 1 2).num*s.den).sign:=⟨_,rfl⟩;have Mm:Hid (∀ w1 v v2,PR w1 v s→PR w1 v2 ((x+y)*mkRat 1 2)→Calls Tryz.prog 65 #[v,v2] w1 fun e w'=>e= .returned (.int .i64 c3)∧G w1 w'):=fun w1 v v2 hv hv2=>by
  rw[hc3];exact q3m w1 v v2 s _ 80 (by omega) b5 qm hv hv2
 have Ha:Hid (c3= -1∨c3=0∨c3=1):=by
  show _∨_;rw[hc3];generalize s.num*((x+y)*mkRat 1 2).den-((x+y)*mkRat 1 2).num*s.den=D;rcases Int.lt_trichotomy D 0 with h|h|h
  ·exact Or.inl (Int.sign_eq_neg_one_of_neg h)
  ·exact Or.inr (Or.inl (by rw[h];rfl))
  ·exact Or.inr (Or.inr (Int.sign_eq_one_of_pos h))
 have hs3:=qag h BG BH;rw[← hc3] at hs3;generalize (x+y)*mkRat 1 2=mid at *;have HZ:Hid (q1y E q.num.natAbs q.den T=0↔c1=0∧c2=0):=by rw[hs1,hs2];exact h.z
 have FC:Hid (q1y E q.num.natAbs q.den T≠0→q1y E q.num.natAbs q.den T=if c3<0 then 1 else if c3=0∧c1=0 then 2 else 3):=fun k=>by
  have k2:=h.l k;simp only[← hs3.1,← hs3.2,← hs1] at k2;exact k2
 have mh:Hid ((c1=0∧c2=0)∨m=2∨m=4→q2g m E q.num.natAbs q.den T=T):=fun k=>by
  rcases k with k|k
  ·exact q3x (Or.inl (HZ.out.2 k))
  ·exact q3x (Or.inr k)
 have Aw:Hid (¬ (c1=0∧c2=0)→m=3→q2g m E q.num.natAbs q.den T=T+1):=fun k Ay=>by rw[Ay];exact q8T (fun k2=>k (HZ.out.1 k2))
 have Az:Hid (¬ (c1=0∧c2=0)→m=1→q2g m E q.num.natAbs q.den T=if c3<0∨(c3=0∧c1=0∧T%2=0) then T else T+1):=fun k hm1=>by
  rw[hm1];have k0:q1y E q.num.natAbs q.den T≠0:=fun k2=>k (HZ.out.1 k2);rw[q6Y k0,FC.out k0];by_cases a1:c3<0
  ·rw[if_pos a1,if_pos (Or.inl a1),if_neg (by omega)]
  ·rw[if_neg a1];by_cases a2:c3=0∧c1=0
   ·rw[if_pos a2];by_cases a3:T%2=0
    ·rw[if_neg (by omega),if_pos (by omega)]
    ·rw[if_pos (by omega),if_neg (by omega)]
   ·rw[if_neg a2,if_pos (by omega),if_neg (by omega)]
 generalize q2g m E q.num.natAbs q.den T=rv at *;have Mo:Hid (∀ w1:World,_):=fun w1=>qbk w1;clear HZ FC hs1 hs2 hs3 hc1 hc2 hc3 BG BH qx qy Mj qm h b1 b2 b3 b4 b5 b6 hx uT hX0 hk1 hk2 hr hE h0 hq k1 k2 hqk Me Md K8;generalize mkRat ((2^1024:Nat):Int) 1=tp at *;generalize ((q.num.natAbs*(E*F*(E*F)):Nat):Int)=ai at *;generalize ((E*F:Nat):Int)=xi at *;generalize s*s=ss at *;generalize x+y=xy at *;generalize mkRat 1 2=hf at *;generalize (S:Int)=si at *;generalize (N:Int)=ni at *;generalize (q.den:Int)=di at *;have HT1:Hid (T<2047*2^52):=ht1;have TZ:(T:Int)<9218868437227405312:=by omega
 clear ht1;go_enter Tryz.func20,Tryz.ntmps20;go_wp2_with fail;have hp0:=NI.new (G.refl w) 38;have bK:=(G.refl w).alloc (.cells #[.bool false,.slice none 0 0] 38);obtain⟨p,hp⟩:∃ p,p=w.heap.size:=⟨_,rfl⟩;rw[← hp] at hp0 ⊢;generalize w.alloc (.cells #[.bool false,.slice none 0 0] 38)=w1 at *;clear hp;have iR:Hid (NI w w1 p 0):=hp0;clear hp0;refine q00 (qcp w1 b) ?_;rintro e w2 ⟨rfl,g2⟩;have hG2:=G.trans bK g2;have hp2:=iR.out.G g2;clear iR bK g2;go_wp2_with fail;refine q00 (Mf.out w2 p hG2 hp2) ?_;intro e w3 hs;obtain⟨rfl,hG3,fV,-,-⟩:=SetTo.step hG2 hp2 hs;have fJ:Hid (NI w w3 p ai):=fV;clear hs fV hp2 hG2 Mf;go_wp2_with fail;refine q00 (HDn.out w3 hG3) ?_;intro e w4 hi;obtain⟨d,rfl,g4,hd1,hd2,hd3⟩:=hi;have hG4:=G.trans hG3 g4;have uo:=fJ.out.G g4;have hQ:=Mg.out w4 p d uo hd2 hd3;have HQ:Hid _:=hQ;have eB:Hid (NI w w4 p ai):=uo;clear hQ hd1 hd2 hd3 g4 fJ uo HDn Mg hG3;go_wp2_with fail;refine q00 HQ.out ?_;intro e w5 hs;obtain⟨rfl,bV,gL,-,-⟩:=SetTo.step hG4 eB.out hs;have fZ:Hid (NI w w5 p ni):=gL;clear hs gL eB HQ hG4;go_wp2_with fail;have hz0:=q7t w5 40;have ga:=(G.refl w5).alloc (.cells #[.bool false,.slice none 0 0,.bool false,.slice none 0 0] 40);have hsz:(w5.alloc (.cells #[.bool false,.slice none 0 0,.bool false,.slice none 0 0] 40)).heap.size=w5.heap.size+1:=by simp
 obtain⟨z,hz⟩:∃ z,z=w5.heap.size:=⟨_,rfl⟩;rw[← hz] at hz0 hsz ⊢;have Mq:w.heap.size≤z:=by rw[hz];exact bV.size
 clear hz;generalize w5.alloc (.cells #[.bool false,.slice none 0 0,.bool false,.slice none 0 0] 40)=w6 at *;have Mr:Hid (Rec w6 z [.bool false,.slice none 0 0,.bool false,.slice none 0 0]):=hz0;have Ms:Hid (NI w w6 p ni):=fZ.out.G ga;have nk:Hid (G w w6):=G.trans bV ga;clear hz0 ga fZ bV;have hs0:=NI.new (G.refl w6) 38;have gs:=(G.refl w6).alloc (.cells #[.bool false,.slice none 0 0] 38);rw[hsz] at hs0;generalize z+1=ps at hs0 ⊢;clear hsz;generalize w6.alloc (.cells #[.bool false,.slice none 0 0] 38)=w7 at *;have qV:=Ms.out.G gs;refine q00 (Mh.out w7 p ps hs0.2.1 qV.2.1 hs0.2.2 qV.2.2) ?_;intro e w8 hs;obtain⟨rfl,g8,aG,-,-⟩:=SetTo.step gs hs0 hs;have Hd:Hid (NI w6 w8 ps si):=aG;clear hs aG hs0 gs qV Mh Ms;go_wp2_with fail;have hl0:=NI.new g8 38;have ga:=(G.refl w8).alloc (.cells #[.bool false,.slice none 0 0] 38);have hsl:ps≠w8.heap.size:=by have:=Hd.out.2.1;omega
 generalize w8.heap.size=pl at *;generalize w8.alloc (.cells #[.bool false,.slice none 0 0] 38)=w9 at *;have g9:=G.trans g8 ga;have Mt:Hid (NI w6 w9 ps si):=Hd.out.G ga;have Mv:Hid (NI w6 w9 pl 0):=hl0;clear ga hl0 Hd g8;refine q00 (q1q w9 1 (by omega)) ?_;intro e aR hi;obtain⟨po,rfl,g10,ho1,ho2,ho3⟩:=hi;have Mw:=G.trans g9 g10;have BI:=Mt.out.G g10;have uU:=Mv.out.G g10;have BJ:Hid _:=HL2.out aR pl po uU.2.1 ho2 uU.2.2 ho3;have BL:Hid (NI w6 aR ps si):=BI;have BM:Hid (NI w6 aR pl 0):=uU;clear g9 g10 ho1 ho2 ho3 BI uU Mt Mv HL2;go_wp2_with fail;refine q00 BJ.out ?_;intro e dH hs;obtain⟨rfl,g11,xC,-,hk⟩:=SetTo.step Mw BM.out hs;have aV:=hk ps _ hsl BL.out;have xD:=Rec.G Mr.out g11;have BO:Hid _:=wo.out dH z ps pl xD aV.2.1 aV.2.2 xC.2.1 xC.2.2;have hzs:=xD.lt;have BP:Hid (G w dH):=G.trans nk.out g11;clear hs hk aV xC xD BL BM BJ Mw g11 Mr nk wo hsl;go_wp2_with fail;refine q00 BO.out ?_;intro e fT hs;obtain⟨iX,rfl,g12,hq1,hq2,hq3⟩:=SetRat.ret BP.out Mq hzs hs;have BQ:Hid (G w fT):=g12;have nE:Hid (iX<fT.heap.size∧RIs fT iX s):=⟨hq2,hq3⟩;clear hs hq1 hq2 hq3 g12 BO hzs Mq BP;go_wp2_with fail;have hr0:=q2S fT 40;have ga:=(G.refl fT).alloc (.cells #[.bool false,.slice none 0 0,.bool false,.slice none 0 0] 40);have hzs:fT.heap.size<(fT.alloc (.cells #[.bool false,.slice none 0 0,.bool false,.slice none 0 0] 40)).heap.size:=by simp
 obtain⟨z2,hz2⟩:∃ z,z=fT.heap.size:=⟨_,rfl⟩;rw[← hz2] at hr0 hzs ⊢;have hz3:fT.heap.size≤z2:=by omega
 clear hz2;generalize fT.alloc (.cells #[.bool false,.slice none 0 0,.bool false,.slice none 0 0] 40)=kV at *;refine q00 (Mi.out kV z2 iX hzs (G.lt ga nE.out.1) hr0 (RIs.G nE.out.2 nE.out.1 ga)) ?_;intro e uk hs;obtain⟨OW,rfl,g14,-,hq2,hq3⟩:=SetRat.ret ga hz3 hzs hs;have xE:Hid (G w uk):=G.trans BQ.out g14;have uV:Hid (iX<uk.heap.size∧RIs uk iX s):=⟨G.lt g14 nE.out.1,RIs.G nE.out.2 nE.out.1 g14⟩;have BR:Hid _:=lY.out uk _ xE.out ⟨OW,rfl,hq2,hq3⟩;clear hs hq2 hq3 g14 ga hr0 hzs hz3 Mi lY BQ nE;go_wp2_with fail;refine q00 BR.out ?_;rintro e kL ⟨rfl,g15⟩;have BS:Hid (G w kL):=G.trans xE.out g15;have qW:Hid (iX<kL.heap.size∧RIs kL iX s):=⟨G.lt g15 uV.out.1,RIs.G uV.out.2 uV.out.1 g15⟩;have BU:Hid _:=BF.out kL _ ⟨iX,rfl,qW.out⟩;clear g15 xE uV BR BF;go_wp2_with fail;refine q00 BU.out ?_;rintro e w16 ⟨rfl,g16⟩;have uW:Hid (G w w16):=G.trans BS.out g16;have pF:Hid (iX<w16.heap.size∧RIs w16 iX s):=⟨G.lt g16 qW.out.1,RIs.G qW.out.2 qW.out.1 g16⟩;clear g16 BS qW BU;by_cases a1:c1=0
 case' pos=>
  have HA:Hid (c1=0):=a1;go_wp2_with fail;refine q00 (um.out w16) ?_;rintro e uX ⟨v17,rfl,g17,k17⟩;have BV:Hid (G w uX):=G.trans uW.out g17;have qX:Hid (iX<uX.heap.size∧RIs uX iX s):=⟨G.lt g17 pF.out.1,RIs.G pF.out.2 pF.out.1 g17⟩;have BX:Hid _:=iQ.out uX _ _ k17 ⟨iX,rfl,qX.out⟩;clear g17 k17 uW pF iQ;go_wp2_with fail;refine q00 BX.out ?_;rintro e w6 ⟨rfl,g18⟩;have nk:Hid (G w w6):=G.trans BV.out g18;have qY:Hid (iX<w6.heap.size∧RIs w6 iX s):=⟨G.lt g18 qX.out.1,RIs.G qX.out.2 qX.out.1 g18⟩;clear g18 BV qX BX;by_cases a2:c2=0
  case pos=>
   have HV:Hid (rv=T):=mh.out (Or.inl ⟨a1,a2⟩);clear mh Aw Az;go_wp2_with fail;go_ret;exact⟨by rw[HV.out];first|done|rfl,nk.out⟩
  have HN:Hid (¬ (c1=0∧c2=0)):=fun k=>a2 k.2;have a8:(c2==0)=false:=by simpa using a2
 case' neg=>
  have HN:Hid (¬ (c1=0∧c2=0)):=fun k=>a1 k.1;have HA:Hid (¬ c1=0):=a1;have a8:(c1==0)=false:=by simpa using a1
  have nk:Hid (G w w16):=uW.out;have qY:Hid (iX<w16.heap.size∧RIs w16 iX s):=pF.out;clear uW pF iQ
 all_goals
  rcases hm with rfl|rfl|rfl|rfl
  ·have gJ:Hid _:=Az.out HN.out rfl;clear Az HN mh Aw;go_wp2_with fail;refine q00 (dm.out _) ?_;rintro e He ⟨rfl,g20⟩;go_wp2_with fail;refine q00 (fI.out He) ?_;rintro e uY ⟨rfl,g21⟩;have pG:Hid (G w uY):=G.trans nk.out (G.trans g20 g21);have kX:Hid (iX<uY.heap.size∧RIs uY iX s):=⟨G.lt (G.trans g20 g21) qY.out.1,RIs.G qY.out.2 qY.out.1 (G.trans g20 g21)⟩;clear g20 g21 nk qY dm fI;go_wp2_with fail;by_cases hi:T+1=2047*2^52
   case' pos=>
    have hd:decide (T+1=2047*2^52)=true:=decide_eq_true hi;rw[hd] at Av;refine q00 (xB.out uY hi) ?_;rintro e Hf ⟨v22,rfl,g22,k22⟩;clear hi hd qU xB;go_wp2_with fail;refine q00 (Av.out Hf) ?_;rintro e jS ⟨rfl,g23⟩;have xG:Hid (G w jS):=G.trans pG.out (G.trans g22 g23);have qZ:Hid (iX<jS.heap.size∧RIs jS iX s):=⟨G.lt (G.trans g22 g23) kX.out.1,RIs.G kX.out.2 kX.out.1 (G.trans g22 g23)⟩;have xH:Hid (PR jS v22 y):=k22.G g23;clear g22 g23 pG kX Av k22
   case' neg=>
    have hd:decide (T+1=2047*2^52)=false:=decide_eq_false hi;rw[hd] at Av;have hi2:T+1<2047*2^52:=by have:=HT1.out;omega
    have BZ:Hid (∀ w1:World,_):=fun w1=>Mk.out w1 hi2;refine q00 (qU.out uY) ?_;rintro e Hf ⟨v21,rfl,g22,-⟩;clear hi hd qU xB hi2 Mk;go_wp2_with fail;refine q00 (Av.out Hf) ?_;rintro e OX ⟨rfl,g23⟩;go_wp2_with fail;refine q00 (BZ.out OX) ?_;rintro e jS ⟨v22,rfl,g24,k22⟩;have xG:Hid (G w jS):=G.trans pG.out (G.trans g22 (G.trans g23 g24));have qZ:Hid (iX<jS.heap.size∧RIs jS iX s):=⟨G.lt (G.trans g22 (G.trans g23 g24)) kX.out.1,RIs.G kX.out.2 kX.out.1 (G.trans g22 (G.trans g23 g24))⟩;have xH:Hid (PR jS v22 y):=k22;clear g22 g23 g24 pG kX Av k22 BZ
   all_goals
    go_wp2_with fail;have hz0:=q2S jS 40;have ga:=(G.refl jS).alloc (.cells #[.bool false,.slice none 0 0,.bool false,.slice none 0 0] 40);have hsz:(jS.alloc (.cells #[.bool false,.slice none 0 0,.bool false,.slice none 0 0] 40)).heap.size=jS.heap.size+1:=by simp
    have rf:jS.heap.size<(jS.alloc (.cells #[.bool false,.slice none 0 0,.bool false,.slice none 0 0] 40)).heap.size:=by simp
    obtain⟨z1,hz1⟩:∃ z,z=jS.heap.size:=⟨_,rfl⟩;have C8:jS.heap.size≤z1:=by omega
    rw[← hz1] at hz0 hsz rf ⊢;clear hz1;generalize jS.alloc (.cells #[.bool false,.slice none 0 0,.bool false,.slice none 0 0] 40)=oG at *;have hy0:=q2S oG 40;have gb:=(G.refl oG).alloc (.cells #[.bool false,.slice none 0 0,.bool false,.slice none 0 0] 40);have hlt1:oG.heap.size<(oG.alloc (.cells #[.bool false,.slice none 0 0,.bool false,.slice none 0 0] 40)).heap.size:=by simp
    obtain⟨z2,hz2⟩:∃ z,z=oG.heap.size:=⟨_,rfl⟩;have C9:oG.heap.size≤z2:=by omega
    rw[← hz2] at hy0 hlt1;have e12:z1+1=z2:=by omega
    rw[e12];clear hz2 hsz e12;generalize oG.alloc (.cells #[.bool false,.slice none 0 0,.bool false,.slice none 0 0] 40)=xI at *;have HZ1:Hid (z1<xI.heap.size∧RatIs xI z1 0 0):=⟨G.lt gb rf,RatIs.G hz0 rf gb⟩;have HZ2:Hid (z2<xI.heap.size∧RatIs xI z2 0 0):=⟨hlt1,hy0⟩;have ql:Hid (G jS xI∧jS.heap.size≤z1∧oG.heap.size≤z2∧G oG xI∧z1<oG.heap.size∧RatIs oG z1 0 0∧G jS oG):=⟨G.trans ga gb,C8,C9,gb,rf,hz0,ga⟩;clear hz0 hy0 ga gb rf hlt1 C8 C9;refine q00 (um.out xI) ?_;rintro e Hg ⟨v27,rfl,AA,k27⟩;obtain⟨px,rfl,hx1,hx2⟩:=k27;obtain⟨py,rfl,hy1,hy2⟩:=xH.out;have rq:=G.trans ql.out.1 AA;have HAD:Hid _:=Bj.out Hg z2 px py (G.lt AA HZ2.out.1) hx1 (G.lt rq hy1) (RatIs.G HZ2.out.2 HZ2.out.1 AA) hx2 (RIs.G hy2 hy1 rq);have xJ:Hid (G oG Hg∧z2<Hg.heap.size):=⟨G.trans ql.out.2.2.2.1 AA,G.lt AA HZ2.out.1⟩;clear AA hx1 hx2 hy1 hy2 rq HZ2 HZ1 xH Bj um;go_wp2_with fail;refine q00 HAD.out ?_;intro e FD hs;obtain⟨p28,rfl,Mx,-,hs1,hs2⟩:=SetRat.ret xJ.out.1 ql.out.2.2.1 xJ.out.2 hs;have uZ:Hid (p28<FD.heap.size∧RIs FD p28 xy):=⟨hs1,hs2⟩;have Ca:Hid (G oG FD):=Mx;clear hs hs1 hs2 Mx HAD xJ;go_wp2_with fail;refine q00 (Mo.out FD) ?_;rintro e Hl ⟨v29,rfl,FE,OY⟩;obtain⟨ph,rfl,FH,Hm⟩:=OY;have mi:=G.trans Ca.out FE;have Cb:Hid _:=Ml.out Hl z1 p28 ph (G.lt mi ql.out.2.2.2.2.1) (G.lt FE uZ.out.1) FH (RatIs.G ql.out.2.2.2.2.2.1 ql.out.2.2.2.2.1 mi) (RIs.G uZ.out.2 uZ.out.1 FE) Hm;have xK:Hid (G jS Hl∧z1<Hl.heap.size):=⟨G.trans ql.out.2.2.2.2.2.2 mi,G.lt mi ql.out.2.2.2.2.1⟩;clear FE FH Hm mi Mo Ml uZ Ca
    go_wp2_with fail;refine q00 Cb.out ?_;intro e MB hs;obtain⟨p30,rfl,FI,-,hs1,hs2⟩:=SetRat.ret xK.out.1 ql.out.2.1 xK.out.2 hs;have Cc:Hid _:=Mm.out MB _ _ ⟨iX,rfl,G.lt FI qZ.out.1,RIs.G qZ.out.2 qZ.out.1 FI⟩ ⟨p30,rfl,hs1,hs2⟩;have Ce:Hid (G w MB):=G.trans xG.out FI;clear hs hs1 hs2 FI Cb xK ql Mm qZ xG;go_wp2_with fail;refine q00 Cc.out ?_;rintro e BC ⟨rfl,qo⟩;have nk:Hid (G w BC):=G.trans Ce.out qo;clear qo Ce Cc;rcases Ha.out with h3|h3|h3
    ·subst h3;have HV:Hid (rv=T):=by
      show rv=_;rw[gJ.out,if_pos (Or.inl (by decide))]
     clear gJ;go_wp2_with fail;go_ret;exact⟨by rw[HV.out];first|done|rfl,nk.out⟩
    ·subst h3;by_cases a5:T%2=0
     ·have a6:(T:Int)%2=0:=by omega
      first
      |have HV:Hid (rv=T):=by
        show rv=_;rw[gJ.out,if_pos (Or.inr ⟨rfl,HA.out,a5⟩)]
      |have HV:Hid (rv=T+1):=by
        show rv=_;rw[gJ.out,if_neg (fun k=>by have:=HA.out;omega)]
      clear gJ a5;go_wp2_with fail;go_ret;exact⟨by rw[HV.out];first|done|rfl,nk.out⟩
     ·have a6:(T:Int)%2=1:=by omega
      have HV:Hid (rv=T+1):=by
       show rv=_;rw[gJ.out,if_neg (by omega)]
      clear gJ a5;go_wp2_with fail;go_ret;exact⟨by rw[HV.out];first|done|rfl,nk.out⟩
    ·subst h3;have HV:Hid (rv=T+1):=by
      show rv=_;rw[gJ.out,if_neg (by omega)]
     clear gJ;go_wp2_with fail;go_ret;exact⟨by rw[HV.out];first|done|rfl,nk.out⟩
  ·have HV:Hid (rv=T):=mh.out (Or.inr (Or.inl rfl));clear mh Aw Az HN;go_wp2_with fail;go_ret;exact⟨by rw[HV.out];first|done|rfl,nk.out⟩
  ·have HV:Hid (rv=T+1):=Aw.out HN.out rfl;clear mh Aw Az HN;go_wp2_with fail;refine q00 (dm.out _) ?_;rintro e He ⟨rfl,g20⟩;go_wp2_with fail;refine q00 (fI.out He) ?_;rintro e uY ⟨rfl,g21⟩;have pG:Hid (G w uY):=G.trans nk.out (G.trans g20 g21);have kX:Hid (iX<uY.heap.size∧RIs uY iX s):=⟨G.lt (G.trans g20 g21) qY.out.1,RIs.G qY.out.2 qY.out.1 (G.trans g20 g21)⟩;clear g20 g21 nk qY dm fI;go_wp2_with fail;go_ret;exact⟨by rw[HV.out];first|done|rfl,pG.out⟩
  ·have HV:Hid (rv=T):=mh.out (Or.inr (Or.inr rfl));clear mh Aw Az HN;go_wp2_with fail;go_ret;exact⟨by rw[HV.out];first|done|rfl,nk.out⟩
end Go.Proofs.YtbfjihniphldaaaGreatDoor.EN
