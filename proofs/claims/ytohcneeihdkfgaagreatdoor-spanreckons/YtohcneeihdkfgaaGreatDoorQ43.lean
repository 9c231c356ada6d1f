/- What is proved here: the reference's root of a fraction that isn't below 0, its walk, over this seat's translation. -/
import Derived.Test.YtohcneeihdkfgaaGreatDoorQ1
import Derived.Test.YtohcneeihdkfgaaGreatDoorQ3
import Derived.Test.YtohcneeihdkfgaaGreatDoorQ8
import Derived.Test.YtohcneeihdkfgaaGreatDoorQ41
namespace Go.Proofs.YtohcneeihdkfgaaGreatDoor.EN
open Go.ChangeShapes Go.WideShapes Go.ChangeAt Go.RowKit
attribute [local go_sem] fE fN
set_option maxHeartbeats 4000000 in
set_option maxRecDepth 10000 in
theorem q3v (w:World) (u:Value) (q:Rat) (m:Int) (h0:0≤q.num) (hq:QB q 80) (hm:m=1∨m=2∨m=3∨m=4) {E T F H S N:Nat} {s:Rat} (hE:E=2^1074) (h:RootSet q E F H S N T s) (hu:PR w u q):
  Calls Tryz.prog 136 #[u,.int .i64 m] w fun e w'=>e= .returned (.float .f64 (iG m E q.num.natAbs q.den T))∧G w w':=by
 obtain⟨b1,b2,b3,b4,b5,b6⟩:=q58 h hq;obtain⟨K8,rb⟩:∃ k:Nat,k=80:=⟨_,rfl⟩;have gm:QB q K8:=by rw[rb];exact hq
 have st:q.den<2^(32*235):=by
  obtain⟨m8,tw⟩:∃ n:Nat,n=32*235:=⟨_,rfl⟩;rw[← tw];exact aj (qb32 gm).2 (ao eX eX)
 obtain⟨k1,sh⟩:∃ k:Nat,k=1200:=⟨_,rfl⟩;obtain⟨k2,tt⟩:∃ k:Nat,k=2400:=⟨_,rfl⟩;have hx:=h.x;rw[← sh] at hx;have tb:E*F*(E*F)=2^k2:=by rw[hx,← ah];congr 1;omega
 have tm:0<E*F:=aM h.e0 h.f0;obtain⟨b,rfl,hb,hr⟩:=hu;have HR:Hid (RIs w b q):=hr;have oo:Hid (∀ A p,G w A→NI w A p 0→Calls Tryz.prog 187 #[.pointer (some ⟨p,0,none⟩),.pointer (some ⟨b,0,none⟩),.int .u64 2400] A (SetTo A p 0 ((q.num.natAbs*(E*F*(E*F)):Nat):Int))):=fun A p g hp=>by
  have k:=iS A p 0 b 0 k2 0 q.num (2*K8) eX eX (qb32 gm).1 hp.2.1 (de g hb) hp.2.2 (hr.G hb g).1;rw[show (k2:Int)=2400 from by omega,show q.num*2^k2=((q.num.natAbs*(E*F*(E*F)):Nat):Int) from by rw[tb,aG,← q0M h0,Int.natCast_pow];rfl] at k;exact k
 have oj:Hid (∀ A,G w A→Calls Tryz.prog 29 #[.pointer (some ⟨b,0,none⟩)] A (RetI A (q.den:Int))):=fun A g=>q4e A b q.num q.den (2*K8) eX (qb32 gm).2 q.den_pos (de g hb) (hr.G hb g);have pn:Hid (∀ A p d,NI w A p ((q.num.natAbs*(E*F*(E*F)):Nat):Int)→d<A.heap.size→IntIs A d 0 (q.den:Int)→Calls Tryz.prog 210 #[.pointer (some ⟨p,0,none⟩),.pointer (some ⟨p,0,none⟩),.pointer (some ⟨d,0,none⟩)] A (SetTo A p 0 (N:Int))):=fun A p d hp hd hi=>by
  have k:=q6f A p 0 p 0 d 0 _ _ (q.den:Int) 235 eX (by rw[aA];exact b1) (by rw[aA];exact st) (by have:=q.den_pos;omega) hp.2.1 hp.2.1 hd hp.2.2 hp.2.2 hi;rw[show Int.tdiv ((q.num.natAbs*(E*F*(E*F)):Nat):Int) (q.den:Int)=(N:Int) from by rw[h.n];rfl] at k;exact k
 have pu:Hid (∀ A p L,L<A.heap.size→p<A.heap.size→IntIs A L 0 0→IntIs A p 0 (N:Int)→Calls Tryz.prog 96 #[.pointer (some ⟨L,0,none⟩),.pointer (some ⟨p,0,none⟩)] A (SetTo A L 0 (S:Int))):=fun A p L ci hp hi hn=>
  q5f A L 0 p 0 0 N S 235 eX eX b2 h.r1 h.r2 ci hp hi hn
 have ov:Hid (∀ A pl po,pl<A.heap.size→po<A.heap.size→IntIs A pl 0 0→IntIs A po 0 1→Calls Tryz.prog 187 #[.pointer (some ⟨pl,0,none⟩),.pointer (some ⟨po,0,none⟩),.int .u64 1200] A (SetTo A pl 0 ((E*F:Nat):Int))):=fun A pl po lw ty hi hj=>by
  have k:=iS A pl 0 po 0 k1 0 1 1 eX eX fk lw ty hi hj;rw[show (k1:Int)=1200 from by omega,show (1:Int)*2^k1=((E*F:Nat):Int) from by rw[hx,dV,Int.natCast_pow];rfl] at k;exact k
 have pt:Hid (∀ A O L pl,Rec A O [.bool false,.slice none 0 0,.bool false,.slice none 0 0]→L<A.heap.size→IntIs A L 0 (S:Int)→pl<A.heap.size→IntIs A pl 0 ((E*F:Nat):Int)→
   Calls Tryz.prog 61 #[.pointer (some ⟨O,0,none⟩),.pointer (some ⟨L,0,none⟩),.pointer (some ⟨pl,0,none⟩)] A (SetRat A O s)):=fun A O L pl hz ci ts lw tr=>by
  have k:=kH A O L 0 pl 0 (S:Int) ((E*F:Nat):Int) 235 eX (by rw[aA];exact b3) (by rw[aA];exact b4) eX ci lw hz ts tr;rw[show ((S:Int):Rat)/(((E*F:Nat):Int):Rat)=s from by rw[h.sr,Rat.mkRat_eq_div,Rat.intCast_natCast (E*F)]] at k;exact k
 have pc:Hid (∀ A O L,O<A.heap.size→L<A.heap.size→RatIs A O 0 0→RIs A L s→Calls Tryz.prog 19 #[.pointer (some ⟨O,0,none⟩),.pointer (some ⟨L,0,none⟩),.pointer (some ⟨L,0,none⟩)] A (SetRat A O (s*s))):=fun A O L ua ci hz hi=>
  q04 A O L L 0 0 s s 80 eX b5 b5 ua ci ci hz hi hi
 obtain⟨c1,lc⟩:∃ c,c=((s*s).num*q.den-q.num*(s*s).den).sign:=⟨_,rfl⟩;have oe:Hid (∀ A v,G w A→PR A v (s*s)→Calls Tryz.prog 25 #[v,.pointer (some ⟨b,0,none⟩)] A fun e w'=>e= .returned (.int .i64 c1)∧G A w'):=fun A v g hv=>by
  rw[lc];exact jB A v _ (s*s) q 160 eX b6 (hq.mono eX) hv ⟨b,rfl,de g hb,hr.G hb g⟩
 have Y:=q2o h h0;rw[← lc] at Y;have pp:Hid (∀ A v,PR A v s→Calls Tryz.prog 202 #[v,.int .i64 2] A fun e w'=>e= .returned (.float .f64 T)∧G A w'):=fun A v hv=>q3y A v h b5 hv;have eu:=h.t1;obtain⟨x,ez⟩:∃ x:Rat,x=mkRat (FT.v T:Int) E:=⟨_,rfl⟩;obtain⟨y,fa⟩:∃ y:Rat,y=mkRat (FT.v (T+1):Int) E:=⟨_,rfl⟩;obtain⟨qx,qy,th,qm⟩:=q6b hE eu ez fa;have kw:Hid (∀ A,Calls Tryz.prog 38 #[.float .f64 T] A (RetP A x)):=fun A=>by rw[ez];exact q3n A hE eu
 obtain⟨c2,lg⟩:∃ c,c=(x.num*s.den-s.num*x.den).sign:=⟨_,rfl⟩;have ks:Hid (∀ A v v2,PR A v x→PR A v2 s→Calls Tryz.prog 25 #[v,v2] A fun e w'=>e= .returned (.int .i64 c2)∧G A w'):=fun A v v2 hv mn=>by
  rw[lg];exact jB A v v2 x s 80 eX qx b5 hv mn
 have ag:=q4b h ez;rw[← lg] at ag;have fr:Hid (∀ A:World,Calls Tryz.prog 211 #[.int .i64 1] A fun e w'=>e= .returned (.float .f64 FT.infR)∧G A w'):=fun A=>q0H 1 A eX;have fs:Hid (∀ A:World,Calls Tryz.prog 60 #[.float .f64 T,.float .f64 FT.infR] A fun e w'=>e= .returned (.float .f64 (T+1))∧G A w'):=fun A=>by
  have k:=js T A eX;rw[show T=FT.wrd false T from rfl,q3V eu] at k;exact k
 have cb:Hid (∀ A:World,Calls Tryz.prog 101 #[.float .f64 (T+1),.int .i64 0] A fun e w'=>e= .returned (.bool (decide (T+1=2047*2^52)))∧G A w'):=fun A=>by
  have k:=jg (T+1) A eX;rw[FT.rung_small eX] at k;exact k
 have dr:Hid (∀ A,T+1=2047*2^52→Calls Tryz.prog 212 #[.int .i64 1024] A (RetP A y)):=fun A hi=>by
  have k:=q3S A;rw[q6F hE,← hi,← fa] at k;exact k
 have bm:Hid (∀ A,Calls Tryz.prog 212 #[.int .i64 1024] A (RetP A (mkRat ((2^1024:Nat):Int) 1))):=fun A=>q3S A;have pq:Hid (∀ A,T+1<2047*2^52→Calls Tryz.prog 38 #[.float .f64 (T+1)] A (RetP A y)):=fun A hi=>by rw[fa];exact q3n A hE hi
 have ob:Hid (∀ A O px py,O<A.heap.size→px<A.heap.size→py<A.heap.size→RatIs A O 0 0→RIs A px x→RIs A py y→Calls Tryz.prog 15 #[.pointer (some ⟨O,0,none⟩),.pointer (some ⟨px,0,none⟩),.pointer (some ⟨py,0,none⟩)] A (SetRat A O (x+y))):=fun A O px py k1 k2 k3 k4 k5 k6=>
  q29 A O px py 0 0 x y 80 eX qx qy k1 k2 k3 k4 k5 k6
 have pb:Hid (∀ A O px py,O<A.heap.size→px<A.heap.size→py<A.heap.size→RatIs A O 0 0→RIs A px (x+y)→RIs A py (mkRat 1 2)→Calls Tryz.prog 19 #[.pointer (some ⟨O,0,none⟩),.pointer (some ⟨px,0,none⟩),.pointer (some ⟨py,0,none⟩)] A (SetRat A O ((x+y)*mkRat 1 2))):=fun A O px py k1 k2 k3 k4 k5 k6=>
  q04 A O px py 0 0 (x+y) (mkRat 1 2) 80 eX th ⟨by decide+kernel,by decide+kernel⟩ k1 k2 k3 k4 k5 k6
 obtain⟨c3,gg⟩:∃ c,c=(s.num*((x+y)*mkRat 1 2).den-((x+y)*mkRat 1 2).num*s.den).sign:=⟨_,rfl⟩;have oi:Hid (∀ A v v2,PR A v s→PR A v2 ((x+y)*mkRat 1 2)→Calls Tryz.prog 25 #[v,v2] A fun e w'=>e= .returned (.int .i64 c3)∧G A w'):=fun A v v2 hv mn=>by
  rw[gg];exact jB A v v2 s _ 80 eX b5 qm hv mn
 have pv:Hid (c3= -1∨c3=0∨c3=1):=by
  show _∨_;rw[gg];generalize s.num*((x+y)*mkRat 1 2).den-((x+y)*mkRat 1 2).num*s.den=D;rcases cx D 0 with h|h|h
  ·exact Or.inl (dd h)
  ·exact Or.inr (Or.inl (by rw[h];rfl))
  ·exact Or.inr (Or.inr (bg h))
 have ha:=q4c h ez fa;rw[← gg] at ha;generalize (x+y)*mkRat 1 2=mid at *;have HZ:Hid (il E q.num.natAbs q.den T=0↔c1=0∧c2=0):=by rw[Y,ag];exact h.z
 have oy:Hid (il E q.num.natAbs q.den T≠0→il E q.num.natAbs q.den T=if c3<0 then 1 else if c3=0∧c1=0 then 2 else 3):=fun k=>by
  have k2:=h.l k;simp only[← ha.1,← ha.2,← Y] at k2;exact k2
 have M:Hid ((c1=0∧c2=0)∨m=2∨m=4→iG m E q.num.natAbs q.den T=T):=fun k=>by
  rcases k with k|k
  ·exact lY (Or.inl (HZ.out.2 k))
  ·exact lY (Or.inr k)
 have cd:Hid (¬ (c1=0∧c2=0)→m=3→iG m E q.num.natAbs q.den T=T+1):=fun k tv=>by rw[tv];exact q3w (fun k2=>k (HZ.out.1 k2))
 have cc:Hid (¬ (c1=0∧c2=0)→m=1→iG m E q.num.natAbs q.den T=if c3<0∨(c3=0∧c1=0∧T%2=0) then T else T+1):=fun k tu=>by
  rw[tu];have k0:il E q.num.natAbs q.den T≠0:=fun k2=>k (HZ.out.1 k2);rw[q0h k0,oy.out k0];by_cases a1:c3<0
  ·rw[if_pos a1,if_pos (Or.inl a1),if_neg eX]
  ·rw[if_neg a1];by_cases a2:c3=0∧c1=0
   ·rw[if_pos a2];by_cases a3:T%2=0
    ·rw[if_neg eX,if_pos eX]
    ·rw[if_pos eX,if_neg eX]
   ·rw[if_neg a2,if_pos eX,if_neg eX]
 generalize iG m E q.num.natAbs q.den T=rv at *;have ol:Hid (∀ A:World,_):=fun A=>q5T A;clear HZ oy Y ag ha lc lg gg ez fa qx qy th qm h b1 b2 b3 b4 b5 b6 hx tb tm sh tt hr hE h0 hq k1 k2 gm st rb K8;generalize mkRat ((2^1024:Nat):Int) 1=tp at *;generalize ((q.num.natAbs*(E*F*(E*F)):Nat):Int)=ai at *;generalize ((E*F:Nat):Int)=xi at *;generalize s*s=ss at *;generalize x+y=xy at *;generalize mkRat 1 2=hf at *;generalize (S:Int)=si at *;generalize (N:Int)=ni at *;generalize (q.den:Int)=di at *;have tk:Hid (T<2047*2^52):=eu;have uk:(T:Int)<9218868437227405312:=by omega
 clear eu;go_enter Tryz.func136,Tryz.ntmps136;go_wp2_with fail;have lm:=ei (ad w) 43;have ra:=(ad w).alloc (.cells #[.bool false,.slice none 0 0] 43);obtain⟨p,hp⟩:∃ p,p=w.heap.size:=⟨_,rfl⟩;rw[← hp] at lm ⊢;generalize w.alloc (.cells #[.bool false,.slice none 0 0] 43)=A at *;clear hp;have pm:Hid (NI w A p 0):=lm;clear lm;refine eW (q6X A b) ?_;rintro e w2 ⟨rfl,g2⟩;have ky:=ab ra g2;have ls:=pm.out.G g2;clear pm ra g2;go_wp2_with fail;refine eW (oo.out w2 p ky ls) ?_;intro e w3 W;obtain⟨rfl,la,rc,-,-⟩:=bj ky ls W;have pd:Hid (NI w w3 p ai):=rc;clear W rc ls ky oo;go_wp2_with fail;refine eW (oj.out w3 la) ?_;intro e w4 hi;obtain⟨d,rfl,g4,tq,rr,rs⟩:=hi;have qz:=ab la g4;have li:=pd.out.G g4;have hQ:=pn.out w4 p d li rr rs;have HQ:=hi9 hQ;have pe:Hid (NI w w4 p ai):=li;clear hQ tq rr rs g4 pd li oj pn la;go_wp2_with fail;refine eW HQ.out ?_;intro e w5 W;obtain⟨rfl,lb,rn,-,-⟩:=bj qz pe.out W;have pf:Hid (NI w w5 p ni):=rn;clear W rn pe HQ qz;go_wp2_with fail;have bl:=q0O w5 45;have ga:=(ad w5).alloc (.cells #[.bool false,.slice none 0 0,.bool false,.slice none 0 0] 45);have cr:(w5.alloc (.cells #[.bool false,.slice none 0 0,.bool false,.slice none 0 0] 45)).heap.size=w5.heap.size+1:=by simp
 obtain⟨z,hz⟩:∃ z,z=w5.heap.size:=⟨_,rfl⟩;rw[← hz] at bl cr ⊢;have tf:w.heap.size≤z:=by rw[hz];exact lb.size
 clear hz;generalize w5.alloc (.cells #[.bool false,.slice none 0 0,.bool false,.slice none 0 0] 45)=w6 at *;have qa:Hid (Rec w6 z [.bool false,.slice none 0 0,.bool false,.slice none 0 0]):=bl;have pi:Hid (NI w w6 p ni):=pf.out.G ga;have I:Hid (G w w6):=ab lb ga;clear bl ga pf lb;have cl:=ei (ad w6) 43;have gs:=(ad w6).alloc (.cells #[.bool false,.slice none 0 0] 43);rw[cr] at cl;generalize z+1=L at cl ⊢;clear cr;generalize w6.alloc (.cells #[.bool false,.slice none 0 0] 43)=w7 at *;have lk:=pi.out.G gs;refine eW (pu.out w7 p L cl.2.1 lk.2.1 cl.2.2 lk.2.2) ?_;intro e w8 W;obtain⟨rfl,g8,rp,-,-⟩:=bj gs cl W;have kx:Hid (NI w6 w8 L si):=rp;clear W rp cl gs lk pu pi;go_wp2_with fail;have so:=ei g8 43;have ga:=(ad w8).alloc (.cells #[.bool false,.slice none 0 0] 43);have sy:L≠w8.heap.size:=by have:=kx.out.2.1;omega
 generalize w8.heap.size=pl at *;generalize w8.alloc (.cells #[.bool false,.slice none 0 0] 43)=w9 at *;have g9:=ab g8 ga;have pr:Hid (NI w6 w9 L si):=kx.out.G ga;have ox:Hid (NI w6 w9 pl 0):=so;clear ga so kx g8;refine eW (gW w9 1 eX) ?_;intro e nl hi;obtain⟨po,rfl,g10,tx,sp,sq⟩:=hi;have qs:=ab g9 g10;have kp:=pr.out.G g10;have ca:=ox.out.G g10;have it:Hid _:=ov.out nl pl po ca.2.1 sp ca.2.2 sq;have kb:Hid (NI w6 nl L si):=kp;have io:Hid (NI w6 nl pl 0):=ca;clear g9 g10 tx sp sq kp ca pr ox ov;go_wp2_with fail;refine eW it.out ?_;intro e ti W;obtain⟨rfl,g11,eb,-,hk⟩:=bj qs io.out W;have ec:=hk L _ sy kb.out;have fb:=aw qa.out g11;have kk:Hid _:=pt.out ti z L pl fb ec.2.1 ec.2.2 eb.2.1 eb.2.2;have bq:=fb.lt;have hw:Hid (G w ti):=ab I.out g11;clear W hk ec eb fb kb io it qs g11 qa I pt sy;go_wp2_with fail;refine eW kk.out ?_;intro e Z W;obtain⟨B,rfl,g12,ub,em,ep⟩:=SetRat.ret hw.out tf bq W;have hy:Hid (G w Z):=g12;have R:Hid (B<Z.heap.size∧RIs Z B s):=⟨em,ep⟩;clear W ub em ep g12 kk bq tf hw;go_wp2_with fail;have mm:=iY Z 45;have ga:=(ad Z).alloc (.cells #[.bool false,.slice none 0 0,.bool false,.slice none 0 0] 45);have bq:Z.heap.size<(Z.alloc (.cells #[.bool false,.slice none 0 0,.bool false,.slice none 0 0] 45)).heap.size:=by simp
 obtain⟨z2,fh⟩:∃ z,z=Z.heap.size:=⟨_,rfl⟩;rw[← fh] at mm bq ⊢;have te:Z.heap.size≤z2:=by omega
 clear fh;generalize Z.alloc (.cells #[.bool false,.slice none 0 0,.bool false,.slice none 0 0] 45)=uh at *;refine eW (pc.out uh z2 B bq (de ga R.out.1) mm (RIs.G R.out.2 R.out.1 ga)) ?_;intro e hc W;obtain⟨ue,rfl,g14,-,em,ep⟩:=SetRat.ret ga te bq W;have cs:Hid (G w hc):=ab hy.out g14;have bw:Hid (B<hc.heap.size∧RIs hc B s):=⟨de g14 R.out.1,RIs.G R.out.2 R.out.1 g14⟩;have hl:Hid _:=oe.out hc _ cs.out ⟨ue,rfl,em,ep⟩;clear W em ep g14 ga mm bq te pc oe hy R;go_wp2_with fail;refine eW hl.out ?_;rintro e he ⟨rfl,g15⟩;have ia:Hid (G w he):=ab cs.out g15;have am:Hid (B<he.heap.size∧RIs he B s):=⟨de g15 bw.out.1,RIs.G bw.out.2 bw.out.1 g15⟩;have jj:Hid _:=pp.out he _ ⟨B,rfl,am.out⟩;clear g15 cs bw hl pp;go_wp2_with fail;refine eW jj.out ?_;rintro e bs ⟨rfl,g16⟩;have bv:Hid (G w bs):=ab ia.out g16;have j:Hid (B<bs.heap.size∧RIs bs B s):=⟨de g16 am.out.1,RIs.G am.out.2 am.out.1 g16⟩;clear g16 ia am jj;by_cases a1:c1=0
 case' pos=>
  have HA:Hid (c1=0):=a1;go_wp2_with fail;refine eW (kw.out bs) ?_;rintro e hg ⟨ul,rfl,g17,tg⟩;have ib:Hid (G w hg):=ab bv.out g17;have an:Hid (B<hg.heap.size∧RIs hg B s):=⟨de g17 j.out.1,RIs.G j.out.2 j.out.1 g17⟩;have ho:Hid _:=ks.out hg _ _ tg ⟨B,rfl,an.out⟩;clear g17 tg bv j ks;go_wp2_with fail;refine eW ho.out ?_;rintro e w6 ⟨rfl,g18⟩;have I:Hid (G w w6):=ab ib.out g18;have af:Hid (B<w6.heap.size∧RIs w6 B s):=⟨de g18 an.out.1,RIs.G an.out.2 an.out.1 g18⟩;clear g18 ib an ho;by_cases a2:c2=0
  case pos=>
   have HV:Hid (rv=T):=M.out (Or.inl ⟨a1,a2⟩);clear M cd cc;go_wp2_with fail;go_ret;exact⟨by rw[HV.out];first|done|rfl,I.out⟩
  have HN:Hid (¬ (c1=0∧c2=0)):=fun k=>a2 k.2;have a8:(c2==0)=false:=by simpa using a2
 case' neg=>
  have HN:Hid (¬ (c1=0∧c2=0)):=fun k=>a1 k.1;have HA:Hid (¬ c1=0):=a1;have a8:(c1==0)=false:=by simpa using a1
  have I:Hid (G w bs):=bv.out;have af:Hid (B<bs.heap.size∧RIs bs B s):=j.out;clear bv j ks
 all_goals
  rcases hm with rfl|rfl|rfl|rfl
  ·have o:=hi9 (cc.out HN.out rfl);clear cc HN M cd;go_wp2_with fail;refine eW (fr.out _) ?_;rintro e np ⟨rfl,g20⟩;go_wp2_with fail;refine eW (fs.out np) ?_;rintro e al ⟨rfl,g21⟩;have i:Hid (G w al):=ab I.out (ab g20 g21);have J:Hid (B<al.heap.size∧RIs al B s):=⟨de (ab g20 g21) af.out.1,RIs.G af.out.2 af.out.1 (ab g20 g21)⟩;clear g20 g21 I af fr fs;go_wp2_with fail;by_cases hi:T+1=2047*2^52
   case' pos=>
    have hd:decide (T+1=2047*2^52)=true:=decide_eq_true hi;rw[hd] at cb;refine eW (dr.out al hi) ?_;rintro e nr ⟨v22,rfl,g22,fp⟩;clear hi hd bm dr;go_wp2_with fail;refine eW (cb.out nr) ?_;rintro e C ⟨rfl,g23⟩;have cz:Hid (G w C):=ab i.out (ab g22 g23);have ap:Hid (B<C.heap.size∧RIs C B s):=⟨de (ab g22 g23) J.out.1,RIs.G J.out.2 J.out.1 (ab g22 g23)⟩;have ds:Hid (PR C v22 y):=fp.G g23;clear g22 g23 i J cb fp
   case' neg=>
    have hd:decide (T+1=2047*2^52)=false:=decide_eq_false hi;rw[hd] at cb;have hi2:T+1<2047*2^52:=by have:=tk.out;omega
    have jp:Hid (∀ A:World,_):=fun A=>pq.out A hi2;refine eW (bm.out al) ?_;rintro e nr ⟨v21,rfl,g22,-⟩;clear hi hd bm dr hi2 pq;go_wp2_with fail;refine eW (cb.out nr) ?_;rintro e ui ⟨rfl,g23⟩;go_wp2_with fail;refine eW (jp.out ui) ?_;rintro e C ⟨v22,rfl,g24,fp⟩;have cz:Hid (G w C):=ab i.out (ab g22 (ab g23 g24));have ap:Hid (B<C.heap.size∧RIs C B s):=⟨de (ab g22 (ab g23 g24)) J.out.1,RIs.G J.out.2 J.out.1 (ab g22 (ab g23 g24))⟩;have ds:Hid (PR C v22 y):=fp;clear g22 g23 g24 i J cb fp jp
   all_goals
    go_wp2_with fail;have bl:=iY C 45;have ga:=(ad C).alloc (.cells #[.bool false,.slice none 0 0,.bool false,.slice none 0 0] 45);have cr:(C.alloc (.cells #[.bool false,.slice none 0 0,.bool false,.slice none 0 0] 45)).heap.size=C.heap.size+1:=by simp
    have bi:C.heap.size<(C.alloc (.cells #[.bool false,.slice none 0 0,.bool false,.slice none 0 0] 45)).heap.size:=by simp
    obtain⟨z1,td⟩:∃ z,z=C.heap.size:=⟨_,rfl⟩;have kq:C.heap.size≤z1:=by omega
    rw[← td] at bl cr bi ⊢;clear td;generalize C.alloc (.cells #[.bool false,.slice none 0 0,.bool false,.slice none 0 0] 45)=K at *;have mp:=iY K 45;have gb:=(ad K).alloc (.cells #[.bool false,.slice none 0 0,.bool false,.slice none 0 0] 45);have ee:K.heap.size<(K.alloc (.cells #[.bool false,.slice none 0 0,.bool false,.slice none 0 0] 45)).heap.size:=by simp
    obtain⟨z2,fh⟩:∃ z,z=K.heap.size:=⟨_,rfl⟩;have kr:K.heap.size≤z2:=by omega
    rw[← fh] at mp ee;have qb:z1+1=z2:=by omega
    rw[qb];clear fh cr qb;generalize K.alloc (.cells #[.bool false,.slice none 0 0,.bool false,.slice none 0 0] 45)=bu at *;have tl:Hid (z1<bu.heap.size∧RatIs bu z1 0 0):=⟨de gb bi,RatIs.G bl bi gb⟩;have ea:Hid (z2<bu.heap.size∧RatIs bu z2 0 0):=⟨ee,mp⟩;have X:Hid (G C bu∧C.heap.size≤z1∧K.heap.size≤z2∧G K bu∧z1<K.heap.size∧RatIs K z1 0 0∧G C K):=⟨ab ga gb,kq,kr,gb,bi,bl,ga⟩;clear bl mp ga gb bi ee kq kr;refine eW (kw.out bu) ?_;rintro e nx ⟨v27,rfl,ce,uc⟩;obtain⟨px,rfl,sz,ta⟩:=uc;obtain⟨py,rfl,ms,tc⟩:=ds.out;have bn:=ab X.out.1 ce;have oa:=hi9 (ob.out nx z2 px py (de ce ea.out.1) sz (de bn ms) (RatIs.G ea.out.2 ea.out.1 ce) ta (RIs.G tc ms bn));have dl:Hid (G K nx∧z2<nx.heap.size):=⟨ab X.out.2.2.2.1 ce,de ce ea.out.1⟩;clear ce sz ta ms tc bn ea tl ds ob kw;go_wp2_with fail;refine eW oa.out ?_;intro e hh W;obtain⟨nc,rfl,qc,-,Y,ag⟩:=SetRat.ret dl.out.1 X.out.2.2.1 dl.out.2 W;have bz:Hid (nc<hh.heap.size∧RIs hh nc xy):=⟨Y,ag⟩;have ih:Hid (G K hh):=qc;clear W Y ag qc oa dl;go_wp2_with fail;refine eW (ol.out hh) ?_;rintro e nz ⟨um,rfl,fv,ud⟩;obtain⟨ph,rfl,sa,sb⟩:=ud;have U:=ab ih.out fv;have pa:=hi9 (pb.out nz z1 nc ph (de U X.out.2.2.2.2.1) (de fv bz.out.1) sa (RatIs.G X.out.2.2.2.2.2.1 X.out.2.2.2.2.1 U) (RIs.G bz.out.2 bz.out.1 fv) sb);have dq:Hid (G C nz∧z1<nz.heap.size):=⟨ab X.out.2.2.2.2.2.2 U,de U X.out.2.2.2.2.1⟩;clear fv sa sb U ol pb bz ih;go_wp2_with fail;refine eW pa.out ?_;intro e tj W;obtain⟨uf,rfl,gd,-,Y,ag⟩:=SetRat.ret dq.out.1 X.out.2.1 dq.out.2 W
    have ht:Hid _:=oi.out tj _ _ ⟨B,rfl,de gd ap.out.1,RIs.G ap.out.2 ap.out.1 gd⟩ ⟨uf,rfl,Y,ag⟩;have ii:Hid (G w tj):=ab cz.out gd;clear W Y ag gd pa dq X oi ap cz;go_wp2_with fail;refine eW ht.out ?_;rintro e uj ⟨rfl,qd⟩;have I:Hid (G w uj):=ab ii.out qd;clear qd ii ht;rcases pv.out with h3|h3|h3
    ·subst h3;have HV:Hid (rv=T):=by
      show rv=_;rw[o.out,if_pos (Or.inl fk)]
     clear o;go_wp2_with fail;go_ret;exact⟨by rw[HV.out];first|done|rfl,I.out⟩
    ·subst h3;by_cases a5:T%2=0
     ·have a6:(T:Int)%2=0:=by omega
      first
      |have HV:Hid (rv=T):=by
        show rv=_;rw[o.out,if_pos (Or.inr ⟨rfl,HA.out,a5⟩)]
      |have HV:Hid (rv=T+1):=by
        show rv=_;rw[o.out,if_neg (fun k=>by have:=HA.out;omega)]
      clear o a5;go_wp2_with fail;go_ret;exact⟨by rw[HV.out];first|done|rfl,I.out⟩
     ·have a6:(T:Int)%2=1:=by omega
      have HV:Hid (rv=T+1):=by
       show rv=_;rw[o.out,if_neg eX]
      clear o a5;go_wp2_with fail;go_ret;exact⟨by rw[HV.out];first|done|rfl,I.out⟩
    ·subst h3;have HV:Hid (rv=T+1):=by
      show rv=_;rw[o.out,if_neg eX]
     clear o;go_wp2_with fail;go_ret;exact⟨by rw[HV.out];first|done|rfl,I.out⟩
  ·have HV:Hid (rv=T):=M.out (Or.inr (Or.inl rfl));clear M cd cc HN;go_wp2_with fail;go_ret;exact⟨by rw[HV.out];first|done|rfl,I.out⟩
  ·have HV:Hid (rv=T+1):=cd.out HN.out rfl;clear M cd cc HN;go_wp2_with fail;refine eW (fr.out _) ?_;rintro e np ⟨rfl,g20⟩;go_wp2_with fail;refine eW (fs.out np) ?_;rintro e al ⟨rfl,g21⟩;have i:Hid (G w al):=ab I.out (ab g20 g21);have J:Hid (B<al.heap.size∧RIs al B s):=⟨de (ab g20 g21) af.out.1,RIs.G af.out.2 af.out.1 (ab g20 g21)⟩;clear g20 g21 I af fr fs;go_wp2_with fail;go_ret;exact⟨by rw[HV.out];first|done|rfl,i.out⟩
  ·have HV:Hid (rv=T):=M.out (Or.inr (Or.inr rfl));clear M cd cc HN;go_wp2_with fail;go_ret;exact⟨by rw[HV.out];first|done|rfl,I.out⟩
end Go.Proofs.YtohcneeihdkfgaaGreatDoor.EN
