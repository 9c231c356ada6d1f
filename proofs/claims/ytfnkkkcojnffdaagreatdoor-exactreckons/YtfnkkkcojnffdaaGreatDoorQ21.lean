/- What is proved here: contracts of the reference's big numbers: div, word by word from above, over this seat's translation. -/
import Derived.Test.YtfnkkkcojnffdaaGreatDoorQ1
import Derived.Test.YtfnkkkcojnffdaaGreatDoorQ8
import Derived.Test.YtfnkkkcojnffdaaGreatDoorQ3
import Derived.Test.YtfnkkkcojnffdaaGreatDoorQ18
import Derived.Test.YtfnkkkcojnffdaaGreatDoorQ12
namespace Go.Proofs.YtfnkkkcojnffdaaGreatDoor
open Go.ChangeShapes Go.WideShapes Go.ChangeAt Go.RowKit
open BN
/-- A call hands back the canonical slices of two numbers. -/
def iY (w:World) (x y:Nat) (e:Ending) (A:World):Prop:=∃ v u,e= .returned (.tuple #[v,u])∧G w A∧Num A v x∧Num A u y
/-- A slice of n words whose number has its highest bit. -/
theorem q1u {w:World} {v:Value} {V n0:Nat} (h:Num w v V) (h1:2^(32*(n0+1)+31)≤V) (h2:V<2^(32*(n0+1+1))):
  ∃ (b o c:Nat) (l:List Nat),v= .slice (some ⟨b,o,none⟩) (n0+2:Nat) c∧n0+2≤c∧b<w.heap.size∧okw l∧l.length=n0+2∧val l=V∧Row w b o l∧2^31≤l.getD (n0+1) 0:=by
 obtain⟨l,I,A,rfl⟩:=h;have h3:=eQ A h2;have D:=fm A.1;have E:2^(32*(n0+1))<2^(32*l.length):=aq (bk (ai eK eK) h1) D;have h6:=(aY (by omega:1<2)).1 E;have B:l.length=n0+2:=by omega
 rcases Sl.cases I with ⟨rfl,-⟩|⟨-,b,o,c,rfl,F,hb,J⟩
 ·simp at B
 ·refine⟨b,o,c,l,by rw[B],by omega,hb,A.1,B,rfl,J,?_⟩;have C:=fq (l:=l) (k:=n0+1) eK;rw[aQ eK] at C;simp only[val,bm,aS] at C;have K:=fw A.1 (n0+1) eK;rw[ah] at h1;rcases br (l.getD (n0+1) 0) (2^31) with h|h
  ·exfalso;have:2^(32*(n0+1))*(l.getD (n0+1) 0+1)≤2^(32*(n0+1))*2^31:=aA _ h;rw[aw,bJ] at this;omega
  ·exact h
theorem q31 {w:World} {v:Value} {V:Nat} (h:Num w v V) (C:V≠0) (k:Nat) (D:V<2^(32*k)):
  ∃ (b o c:Nat) (l:List Nat),v= .slice (some ⟨b,o,none⟩) l.length c∧l.length≤c∧b<w.heap.size∧okw l∧l.length≤k∧val l=V∧Row w b o l:=by
 obtain⟨l,E,B,rfl⟩:=h;rcases Sl.cases E with ⟨rfl,-⟩|⟨-,b,o,c,rfl,A,hb,F⟩
 ·exact absurd rfl C
 ·exact⟨b,o,c,l,rfl,A,hb,B.1,eQ B D,rfl,F⟩
theorem js {w:World} {b o:Nat} {l:List Nat} (h:Row w b o l):∀ j v,(l.map fun d=>Value.int .u32 (d:Nat))[j]? =some v→w.cell? ((⟨b,o,none⟩:Addr).add j)=some v:=by
 intro j u B;rw[de] at B;obtain⟨d,A,rfl⟩:=bP.1 B;have:=h j (aV.1 A).1;rw[ad,A] at this;rw[addr_add];exact this
theorem jw (l:List Nat):∀ u∈(l.map fun d=>Value.int .u32 (d:Nat)),u.oneCell'=true:=by
 intro u hu;obtain⟨d,-,rfl⟩:=List.mem_map.1 hu;rfl
theorem Row.setCells {b o c:Nat} {l:List Nat} (hb:b≠c):∀ (cs:List Value) (w:World) (i:Nat),Row w b o l→Row (w.setCells c i cs) b o l
 |[],_,_,h=>h
 |v::cs,_,i,h=>Row.setCells hb cs _ _ (h.set (i:=i) (u:=v) hb)
set_option maxRecDepth 10000 in
set_option maxHeartbeats 8000000 in
theorem qK (w:World) (va vb:Value) (a b K:Nat) (hK:K≤300000) (ha:Num w va a) (hb:Num w vb b) (jx:a<2^(32*K)) (uw:b≤a) (ux:2^64≤a) (uv:2^32≤b):
  Calls Tryz.prog 159 #[va,vb] w (iY w (a/b) (a%b)):=by
 have ng:=ha;have jp:=hb;obtain⟨l,hl,dl,oy⟩:=ha;obtain⟨m,hm,kp,ta⟩:=hb;have yj:=eQ dl (oy▸jx);have sp:2<l.length:=by
  rcases br 2 l.length with h|h
  ·exact h
  ·have h1:=fm dl.1;have h2:2^(32*l.length)≤2^64:=ai eK eK;omega
 have yk:1<m.length:=by
  rcases br 1 m.length with h|h
  ·exact h
  ·have h1:=fm kp.1;have h2:2^(32*m.length)≤2^32:=ai eK eK;omega
 have yl:m.length≤l.length:=by
  rcases br l.length m.length with h|h
  ·have:=fH dl kp h;omega
  ·exact h
 obtain⟨n0,we⟩:∃ n0,m.length=n0+2:=⟨m.length-2,by omega⟩;obtain⟨k,yd,ye,so,np,nx⟩:=kj kp (n:=n0+1) eK;obtain⟨pa,ca,rfl,Ab,wn⟩:=fa hl;obtain⟨pb,cb,rfl,Ac,sz⟩:=fa hm;have ho:=hi9 (iz w _ _ a b K eK ng jp jx eK);have gl:Hid (∀ s,G w s→_):=fun s g=>ly s _ b K eK (jp.G g) eK;have ms:Hid (∀ s,G w s→_):=fun s g=>iC s _ b (32-k) K eK eK (jp.G g) eK;have mp:Hid (∀ s,G w s→_):=fun s g=>iC s _ a (32-k) K eK eK (ng.G g) jx;rw[ta] at so np nx;have hc:decide (cmpV a b<0)=false:=by rw[decide_eq_false_iff_not];unfold cmpV;rw[if_neg eK];split<;>omega
 generalize cmpV a b=cv at *;generalize sk:l.length=j at *;generalize vs:m.length=n at *;rw[so] at gl;have HA:=hi9 wn;have HB:=hi9 sz;have HJ:=hi9 sk;have xg:=hi9 dl;have xh:=hi9 kp;have bi:=hi9 oy;have xr:=hi9 ta;have E:=hi9 we;have zx:=hi9 vs;have zo:(2:Int)≤n:=by omega
 have zw:=hi9 uw;have zv:=hi9 jx;have xd:=hi9 ng;have xf:=hi9 jp;have t1:decide ((j:Int)≤2)=false:=by simp;omega
 have t2:((n:Int)==0)=false:=by simp;omega
 have t3:((n:Int)==1)=false:=by simp;omega
 have Af:(j:Int)≤300000:=by omega
 have Ai:(n:Int)≤j:=by omega
 have vu:(1:Int)≤k:=by omega
 have vv:(k:Int)≤32:=by omega
 obtain⟨mm,wc⟩:∃ mm,j+1=n+mm:=⟨j+1-n,by omega⟩;have Ah:(j:Int)+2-n-1=mm:=by omega
 have zl:(1:Int)≤mm:=by omega
 have zm:(mm:Int)≤300000:=by omega
 have wa:=gp (j+2) eK;rw[show ((j+2:Nat):Int)=(j:Int)+2 from by omega] at wa;have wb:=gp (mm+1) eK;rw[show ((mm+1:Nat):Int)=(mm:Int)+1 from by omega] at wb;have xk:=hi9 wc;obtain⟨e,he⟩:∃ e:Nat,e=32-k:=⟨_,rfl⟩;rw[← he] at mp ms np nx;have hs:32-((((32*(n0+1)+k:Nat):Int)-1)%32)-1=e:=by omega
 have Ad:(e:Int)≤31:=by omega
 have Aa:((32*(n0+1)+k:Nat):Int)≤20000000:=by omega
 have zh:(1:Int)≤((32*(n0+1)+k:Nat):Int):=by omega
 generalize 32*(n0+1)+k=L at *;have um:=hi9 np;have rb:=hi9 nx
 have uu:a*2^e≠0:=by have:=af e;have:0<a:=by omega
                     exact Nat.pos_iff_ne_zero.1 (bF this kg)
 have oa:a*2^e<2^(32*(j+1)):=by
  have h1:=fm dl.1;rw[oy,sk] at h1;have h2:a*2^e<2^(32*j)*2^e:=aF h1 (af _);have h3:2^(32*j)*2^e≤2^(32*(j+1)):=by rw[← ah];exact ai eK eK
  omega
 have th:=hi9 uu;have xe:Hid (0<b):=ae eK uv;have ti:=hi9 oa;have tj:Hid (a*2^e<2^(32*(n0+1+(mm+1)))):=by
  have h1:j+1=n0+1+(mm+1):=by omega
  rw[h1] at oa;exact oa
 clear uu oa;clear np nx wn sz sk dl kp oy ta we vs uw jx ng jp hl hm so hK ux uv yj sp yk yl yd ye wc he vu vv;clear xg xh bi xr xd xf;go_enter Tryz.func159,Tryz.ntmps159;go_wp2_with fail;refine eJ ho.out ?_;rintro e1 s ⟨rfl,hj⟩;go_wp2_with fail;refine eJ (gl.out s hj) ?_;rintro e1 w2 ⟨rfl,ks⟩;have rn:=aa hj ks;go_wp2_with fail;refine eJ (ms.out w2 rn) ?_;rintro e1 w3 ⟨v1,rfl,kw,oo⟩;obtain⟨Z,ov,zy,vl,rfl,zd,wq,wu,lg,wy,wv,wx⟩:=q1u oo um.out rb.out;rw[← E.out] at zd;rw[← E.out];have nl:=aa rn kw;have un:=hi9 wv;have fs:=hi9 wu;have bi:=hi9 lg;have it:=hi9 wy;have uo:=hi9 wx;clear wv wu lg wy wx oo hj ks kw rn;go_wp2_with fail;have bz:G w3 (w3.alloc (.cells (madeCells #[.int .u32 0] (j+2)) 149)):=(ag _).alloc _;have uc:=hi9 (fB w3 (j+2) 149);have hle:w.heap.size≤w3.heap.size:=nl.size;refine eJ (mp.out _ (aa nl bz)) ?_;rintro e1 w4 ⟨v2,rfl,oe,wi⟩;have nc:Hid (Own w4 w3.heap.size (List.replicate (j+2) 0)):=Own.grow uc.out oe;have uq:G w w4:=aa (aa nl bz) oe;have pe:Hid (Row w4 Z ov vl):=Row.G (l:=vl) un.out wq (aa bz oe);clear bz oe uc nl;generalize w3.heap.size=D at *;obtain⟨bl,ol,cl,la,rfl,yh,yg,vw,yi,vz,vy⟩:=q31 wi (th.out) (j+1) ti.out;obtain⟨cs,ob⟩:∃ cs,cs=la.map (fun d=>Value.int .u32 (d:Nat)):=⟨_,rfl⟩;have dl:cs.length=la.length:=by rw[ob,cg]
 have lc:=js vy;have rc:=jw la;rw[← ob] at lc rc;have nd:Hid _:=Own.cells (o:=0) nc.out vw (by simp;omega);rw[← ob] at nd;have gn:∀ i,i<cs.length→(w4.cell? ⟨D,0+i,none⟩).isSome=true:=fun i hi=>by
  rw[aD,Own.cell (l:=List.replicate (j+2) 0) nc.out (by simp;omega)];rfl
 have kb:∀ i,i<cs.length→w4.frozen? ⟨D,0+i,none⟩=false:=fun i hi=>by
  rw[aD];exact Own.frozen (l:=List.replicate (j+2) 0) nc.out (by simp;omega)
 have pu:cs.length=Nat.min la.length (j+2):=by rw[dl];exact(bM eK).symm
 have py:val ((List.replicate (j+2) 0).take 0++(la++(List.replicate (j+2) 0).drop (0+la.length)))=a*2^e:=by
  rw[List.take_zero,bW,val_append,ej,iM,vz];simp
 have pt:((List.replicate (j+2) 0).take 0++(la++(List.replicate (j+2) 0).drop (0+la.length))).length=j+2:=by simp;omega
 generalize (List.replicate (j+2) 0).take 0++(la++(List.replicate (j+2) 0).drop (0+la.length))=us at *;have zr:=run_copy_cells (P:=Tryz.prog) w4 41 41 3 149 D 0 (j+2) (j+2) ⟨bl,ol,none⟩ la.length cl cs Tryz.underlying41 eM pu lc gn kb rc;have ur:G w (w4.setCells D 0 cs):=G.setCells hle cs _ _ uq;have pf:Hid (Row (w4.setCells D 0 cs) Z ov vl):=Row.setCells eK cs _ _ pe.out;generalize zg:w4.setCells D 0 cs=w5 at *;have ul:=hi9 py;have dk:=hi9 pt;clear wi yh yg vw yi vz vy ob dl lc rc gn kb pu py pt uq pe nc un ti th zg;go_wp2_with fail;have ud:=hi9 (fB w5 (mm+1) 149);have oi:G w5 (w5.alloc (.cells (madeCells #[.int .u32 0] (mm+1)) 149)):=(ag _).alloc _;have ka:D<w5.heap.size:=(nd.out:Own w5 D us).2.1;have J:Hid (DS w _ D w5.heap.size Z ov us (List.replicate (mm+1) 0) vl):=DS.mk (aa ur oi) hle wq ka (Own.grow nd.out oi) ud.out (Row.G (l:=vl) pf.out eK oi);generalize w5.heap.size=bq at *;have yy:bq<(w5.alloc (.cells (madeCells #[.int .u32 0] (mm+1)) 149)).heap.size:=(J.out:DS w _ D bq Z ov us (List.replicate (mm+1) 0) vl).q.2.1;generalize w5.alloc (.cells (madeCells #[.int .u32 0] (mm+1)) 149)=w6 at *;have zi:D<bq:=ka;clear ud oi nd pf ur ka;obtain⟨p1,ky⟩:∃ p1,p1=n0+1:=⟨_,rfl⟩;have wg:(n:Int)-1=p1:=by have:=E.out;omega
 have wh:(n:Int)-2=n0:=by have:=E.out;omega
 have xl:=hi9 ky;have xy:w6.cell? ⟨Z,ov+p1,none⟩=some (.int .u32 (vl.getD p1 0:Nat)):=DS.cv (vl:=vl) J.out (by rw[bi.out,ky];omega);have xx:w6.cell? ⟨Z,ov+n0,none⟩=some (.int .u32 (vl.getD n0 0:Nat)):=DS.cv (vl:=vl) J.out (by rw[bi.out];omega);have yz:vl.getD p1 0<2^32:=eO fs.out p1;have ym:vl.getD n0 0<2^32:=eO fs.out n0;have xu:2^31≤vl.getD p1 0:=by rw[ky];exact uo.out
 have tw:Hid (∀ us A,okw us→A+n0+2<us.length→val us<2^(32*(A+1))*(b*2^e)→_):=fun us A h1 h2 h3=>nv h1 fs.out bi.out it.out h2 h3;clear uo;rw[← ky] at tw;have Aj:p1<n:=by have:=E.out;omega
 have zn:n0<n:=by have:=E.out;omega
 clear ky;generalize px:vl.getD p1 0=top at *;generalize ss:vl.getD n0 0=next at *
 clear px ss;have px:(2147483648:Int)≤top:=by omega
 have za:(top:Int)≤4294967295:=by omega
 have xc:(next:Int)≤4294967295:=by omega
 have zb:((top:Int)==0)=false:=by simp;omega
 clear yz ym xu;have ws:Z<w6.heap.size:=by omega
 refine eV eM eM ?_;intro W hW;have yn:=ik (w:=W) ⟨Z,ov+p1,none⟩ (.int .u32 (top:Int));have ox:=ik (w:=W) ⟨Z,ov+n0,none⟩ (.int .u32 (next:Int));clear hW
 repeat (go_big_quiet_step (fail))
 refine wpQuiet_nil ?_;clear yn ox;intro w7 xa;have tl:Hid (DS w w7 D bq Z ov us (List.replicate (mm+1) 0) vl):=DS.grow J.out xa;have ub:=hi9 (DInv.start (n0:=n0) (M:=mm+1) dk.out ul.out tj.out um.out);clear xy xx J xa yy ws;go_wp2_with fail
 go_loopw [18] (fun vj wr=>∃ (t:Nat) (us qs:List Nat),t≤mm+1∧vj= .int .i64 ((t:Int)-1)∧DS w wr D bq Z ov us qs vl∧DInv us qs t (j+2) (mm+1) (b*2^e) (a*2^e)) (fun vj _=>(intOf vj+1).toNat)
 case atStart=>exact⟨mm+1,us,_,az _,by congr 1;omega,tl.out,ub.out⟩
 case round=>
  obtain⟨t,us,qs,ht,rfl,X,ps⟩:=hrel;have J:=hi9 X;have U:=hi9 ps;clear X ps tl ub dk ul;cases t with
  |zero=>
   as_aux_lemma=>
    have vh:=DInv.fin U.out (af e) xe.out;obtain⟨ox,wm⟩:=vh;have xo:Hid (∀ s,G wr s→Calls Tryz.prog 173 #[.slice (some ⟨bq,0,none⟩) (mm+1) (mm+1)] s (eU s (a/b))):=fun s g=>by
     rw[← ox];exact fF (Own.grow (DS.q J.out) g) U.out.2.1 eK
    have xp:Hid (∀ s,G wr s→Calls Tryz.prog 173 #[.slice (some ⟨D,0,none⟩) (j+2) (j+2)] s (eU s (val us))):=fun s g=>fF (Own.grow (DS.u J.out) g) U.out.1 eK;have xn:Hid (∀ s v,Num s v (val us)→Calls Tryz.prog 157 #[v,.int .u64 (e:Int)] s (eU s (a%b))):=fun s v hn=>by
     rw[← wm];exact ig s v (val us) e (j+2) eK eK hn (by have:=fm (DS.u J.out:Own wr D us).1;rwa[U.out.1] at this)
    have oj:=J.out.g;have xj:=hi9 oj;clear ox wm oj mp ms gl ho HA HB;go_wp2_with fail;refine eJ (xo.out wr (ag _)) ?_;rintro e1 s ⟨v1,rfl,hj,wg⟩;go_wp2_with fail;refine eJ (xp.out s hj) ?_;rintro e1 w2 ⟨v2,rfl,ks,wh⟩;go_wp2_with fail;refine eJ (xn.out w2 v2 wh) ?_;rintro e1 w3 ⟨v3,rfl,kw,oo⟩;go_wp2_with fail
    go_ret2
    exact⟨_,_,rfl,aa xj.out (aa hj (aa ks kw)),wg.G (aa ks kw),oo⟩
  |succ A=>
   have zc:us.length=j+2:=U.out.1;have yu:qs.length=mm+1:=U.out.2.1;have yc:A+n0+2<j+2:=by have:=xk.out;have:=E.out;omega
   have hJ:(A:Int)+n-1=((A+p1:Nat):Int):=by omega
   have zz:(A:Int)+n-2=((A+n0:Nat):Int):=by omega
   have zj:(A:Int)≤300000:=by omega
   have vt:A+n<j+2:=by have:=E.out;omega
   have Ag:A+p1<j+2:=by omega
   have zk:A+n0<j+2:=by omega
   have eb:=(DS.u J.out:Own wr D us).1;have xv:=Own.cell (DS.u J.out:Own wr D us) (i:=A+n) eK;have xw:=Own.cell (DS.u J.out:Own wr D us) (i:=A+p1) eK;have ds:=Own.cell (DS.u J.out:Own wr D us) (i:=A+n0) eK;have xb:=eO eb (A+n);have td:=eO eb (A+p1);have te:=eO eb (A+n0);have hF:=tw.out us A eb eK U.out.2.2.1;rw[show A+n0+2=A+n from by have:=E.out;omega,show A+n0+1=A+p1 from by have:=xl.out;omega] at hF;obtain⟨cn,cx,cy,ve,se,sf,vf⟩:=hF;generalize us.getD (A+n) 0=u0 at *;generalize us.getD (A+p1) 0=u1 at *;generalize wo:us.getD (A+n0) 0=u2 at *;have xq:=hi9 wo;clear wo;obtain⟨h,g0,r0,ze,hh,zf,wz,vm,pp,yv,pn⟩:=q1E u0 u1 top xb td eK cn;have ut:val us<(g0+1)*(2^(32*A)*(b*2^e)):=by
    rw[vm];refine q2P (u2:=u2) (P:=2^(32*(A+n0))) (by rw[hh];exact se) te (bk (ay _ eK) sf) eK
   have ui:Hid (val us<(g0+1)*(2^(32*A)*(b*2^e))):=ut;have tp:=hi9 cn;have tq:=hi9 cx;have tr:=hi9 cy;have ts:=hi9 ve;have tu:=hi9 se;have qa:=hi9 sf;have tv:=hi9 vf;have HH:=hi9 hh;have ty:=hi9 pp;have zs:(u0:Int)≤4294967295:=by omega
   have zt:(u1:Int)≤4294967295:=by omega
   have zu:(u2:Int)≤4294967295:=by omega
   have wj:(r0:Int)<top:=by omega
   have xs:Hid (u1<2^32):=td;have xt:Hid (u2<2^32):=te;have tx:Hid (g0≤4294967297):=pn;have al:Hid (A+n<j+2):=vt;have dk:=hi9 zc;have uh:=hi9 yu;have uy:D<wr.heap.size:=(DS.u J.out:Own wr D us).2.1;clear ut cn cx cy ve se sf vf hh pp vm xb td te yv pn eb yc;clear mp ms gl ho HA HB;go_wp2_with fail;refine eV eM eM ?_;intro W hW;have yo:=ik (w:=W) ⟨D,A+n,none⟩ (.int .u32 (u0:Int));have yp:=ik (w:=W) ⟨D,A+p1,none⟩ (.int .u32 (u1:Int));clear hW
   repeat (go_big_quiet_step (fail))
   refine wpQuiet_nil ?_;clear yo yp;intro w8 tb;have pz:Hid (DS w w8 D bq Z ov us qs vl):=DS.grow J.out tb;have pm:=tb.cell (p:=⟨D,A+n0,none⟩) uy ds;clear xv xw ds tb J;go_wp2_with fail;refine eV eM eM ?_;intro W hW;clear hW
   repeat (go_big_quiet_step (fail))
   refine wpQuiet_nil ?_;intro w9 tc;have tm:Hid (DS w w9 D bq Z ov us qs vl):=DS.grow pz.out tc;have pi:D<w8.heap.size:=(DS.u pz.out:Own w8 D us).2.1;have ds:=tc.cell (p:=⟨D,A+n0,none⟩) pi pm;have wk:(r0:Int)≤4294967295:=by omega
   clear pm tc pz pi ds uy ze zf;have pr:GS (val us) (2^(32*A)*(b*2^e)) h top g0 r0:=⟨ty.out,ui.out⟩;have pd:=hi9 pr;have wl:r0<4294967296:=by omega
   clear pr;have up:Hid (4294967296*2^(32*(A+n0))≤2^(32*A)*(b*2^e)):=bk (ay _ eK) qa.out;have pc:Hid (∀ g r,g*top+r=h→g<2^32→g*next≤r*2^32+u2→g*(2^(32*A)*(b*2^e))<val us+2^(32*A)*(b*2^e)):=fun g r k1 k2 k3=>qO (h:=h) (by rw[HH.out];exact ts.out) tv.out up.out k1 k2 k3;have tk:Hid (∀ g r,g*top+r=h→2^32≤r→g<2^32∧g*(2^(32*A)*(b*2^e))<val us+2^(32*A)*(b*2^e)):=fun g r k1 k2=>by
    obtain⟨k3,k4⟩:=qN (u1:=u1) (u2:=u2) (next:=next) (by rw[HH.out];exact Nat.add_le_add_right (ay _ tp.out) _) xs.out k1 k2 eK;exact⟨k3,pc.out g r k1 k3 k4⟩
   have ua:Hid (∀ g,4294967295<g→val us<g*(2^(32*A)*(b*2^e))):=fun g k1=>nG tr.out eK;have uj:Hid (∀ g r,g*top+r=h→r*2^32+u2<g*next→val us<g*(2^(32*A)*(b*2^e))):=fun g r k1 k2=>oM (P:=2^(32*(A+n0))) (h:=h) (by rw[HH.out];exact tu.out) qa.out k1 k2;have ce:Hid (A+n0+2<us.length):=by
    have h0:us.length=j+2:=dk.out;have h1:A+n<j+2:=al.out;have h2:n=n0+2:=E.out;show A+n0+2<us.length;omega
   have zp:¬ D=bq:=by omega
   have zq:¬ bq=D:=by omega
   clear up tp tr ts tu qa tv HH ty ui;go_wp2_with fail;simp only[wz];clear wz
   go_loopw [20,21] (fun vg vr wr=>∃ g r:Nat,vg= .int .u64 g∧vr= .int .u64 r∧g≤4294967297∧r<4294967296∧GS (val us) (2^(32*A)*(b*2^e)) h top g r∧DS w wr D bq Z ov us qs vl) (fun vg _ _=>(intOf vg).toNat)
   case atStart=>exact⟨g0,r0,rfl,rfl,tx.out,by omega,pd.out,tm.out⟩
   case round=>
    obtain⟨g,r,rfl,rfl,Ae,sz,vp,X⟩:=hrel;have hz:=hi9 vp;have J:=hi9 X;clear vp X tm pd wl wj wk;have ds:wr.cell? ⟨D,A+n0,none⟩=some (.int .u32 (us.getD (A+n0) 0:Nat)):=Own.cell (DS.u J.out:Own wr D us) (by have:=dk.out;omega);rw[xq.out] at ds;have vn:(g:Int)≤4294967297:=by omega
    have Ak:(r:Int)≤4294967295:=by omega
    have gz:decide ((4294967295:Int)<g)=decide (4294967295<g):=by congr 1;exact propext eK
    have hf:decide ((4294967295:Int)<(r:Int)+top)=decide (4294967295<r+top):=by congr 1;exact propext eK
    by_cases hg:4294967295<g
    case' neg=>
     rw[show decide (4294967295<g)=false from by simp;omega] at gz;have po:g*next≤4294967295*4294967295:=bN eK eK
     obtain⟨p,hp,st,ot⟩:∃ p:Nat,(g:Int)*next=p∧(p:Int)≤18446744065119617025∧p=g*next:=⟨g*next,by push_cast;rfl,by omega,rfl⟩
     obtain⟨q,hq,sy⟩:∃ q:Nat,bits .or .u64 ((r:Int)*4294967296) (u2:Int)=q∧q=r*2^32+u2:=⟨_,q06 r u2 eK xt.out,rfl⟩;have ue:=hi9 ot;have uf:=hi9 sy;by_cases su:q<p
     case neg=>
      have pv:decide (q<p)=false:=by simp;omega
      have io:Hid (g*(2^(32*A)*(b*2^e))<val us+2^(32*A)*(b*2^e)):=pc.out g r hz.out.1 eK (by rw[← ue.out,← uf.out];omega);have cz:Hid (val us<(g+1)*(2^(32*A)*(b*2^e))):=hz.out.2;have gg:g<4294967296:=by omega
      clear po ot sy su hf hg vn;go_wp2_with fail;clear gz hp hq pv st ds;obtain⟨gt,ea⟩:∃ gt:Nat,gt=g:=⟨g,rfl⟩;rw[← ea] at cz io gg ⊢;clear ea
      as_aux_lemma=>
       have vq:(gt:Int)≤4294967295:=by omega
       go_loopw [22,23,24] (fun vc vd vi w2=>∃ (i c d:Nat) (B:List Nat),i≤n∧vi= .int .i64 i∧vc= .int .u64 c∧vd= .int .u64 d∧c<4294967296∧d≤1∧DS w w2 D bq Z ov B qs vl∧AW us B vl A n0 i gt c d) (fun _ _ vi _=>n-(intOf vi).toNat)
       case atStart=>exact⟨0,0,0,us,bC _,rfl,rfl,rfl,by omega,by omega,J.out,AW.start tq.out⟩
       case round=>
        obtain⟨i,c,d,B,hi,rfl,rfl,rfl,hc,hd,X,ga⟩:=hrel;have R:Hid (DS w wr D bq Z ov B qs vl):=X;have em:=hi9 ga;have sp:B.length=j+2:=ga.1.trans dk.out;clear X ga J;have sa:(c:Int)≤4294967295:=by omega
        have ya:(d:Int)≤1:=by omega
        have sj:(i:Int)≤300002:=by omega
        by_cases Y:i<n
        ·as_aux_lemma=>
          have am:decide (i<n)=true:=by simp;omega
          have kq:=DS.cv (vl:=vl) R.out (i:=i) (by rw[bi.out];have:=E.out;omega);have F:i+A<B.length:=by have h1:=al.out;omega
          have bn:=Own.cell (DS.u R.out:Own wr D B) (i:=i+A) F;have bs:=Own.frozen (DS.u R.out:Own wr D B) (i:=i+A) F;have hy:=eO fs.out i;have hx:=eO (DS.u R.out:Own wr D B).1 (i+A);obtain⟨p,lo,t0,tt,rr,d',c',q1,q2,q3,q4,q5,q6,q7,q8,q9,lk,lm,ls,lw⟩:=rC gt c d _ _ gg hc hd hx hy;have fr:Hid _:=AW.step em.out (by have:=E.out;omega) ce.out lw;have ia:Hid (d'≤1):=lk;have ib:Hid (c'<2^32):=lm;have ih:Hid (rr<2^32):=ls;generalize vl.getD i 0=y at *;generalize B.getD (i+A) 0=x at *;have tf:(y:Int)≤4294967295:=by omega
          have gk:(x:Int)≤4294967295:=by omega
          have st:(p:Int)≤18446744065119617025:=by omega
          have vx:(lo:Int)≤4294967295:=by omega
          have kx:i+A<j+2:=by omega
          have cr:i+1≤n:=Y;have sq:n-(i+1)<n-i:=by omega
          have fp:Hid (i+A<B.length):=F;clear q2 q4 lk lm ls lw hx hy hc hd Y F;go_wp2_with fail
          go_roundw
          case rel=>exact⟨i+1,c',d',B.set (i+A) rr,cr,by go_num,rfl,rfl,ib.out,ia.out,DS.setU R.out (i+A) rr fp.out ih.out,fr.out⟩
          case measure=>simp only[intOf];omega
        ·as_aux_lemma=>
          have am:decide (i<n)=false:=by simp;omega
          have cc:i=n0+2:=by have:=E.out;omega
          rw[cc] at em;have N:A+n<B.length:=by have h1:=al.out;omega
          have bn:=Own.cell (DS.u R.out:Own wr D B) (i:=A+n) N;have bs:=Own.frozen (DS.u R.out:Own wr D B) (i:=A+n) N;have hx:=eO (DS.u R.out:Own wr D B).1 (A+n);obtain⟨t0,tt,rr,d',q1,q2,q3,q4,q5,q6,q7⟩:=mD c d _ hc hd hx;have I:=AW.fin em.out bi.out it.out ce.out (r:=rr) (d':=d') (by rw[← E.out];exact q7);rw[← E.out] at I;have ao:Hid (DS w (wr.setCell ⟨D,A+n,none⟩ (.int .u32 (rr:Int))) D bq Z ov (B.set (A+n) rr) qs vl):=DS.setU R.out (A+n) rr N q6;have gk:(B.getD (A+n) 0:Int)≤4294967295:=by omega
          obtain⟨cn,cx,cy⟩:=I;have ci:=hi9 cn;have cm:Hid _:=cx;have ee:=hi9 cy;generalize B.getD (A+n) 0=x at *;have xm:=hi9 q7;have cd:A<qs.length:=by rw[uh.out];omega
          have oj:IntKind.u32.wrap (gt:Int)=gt:=by rw[IntKind.wrap_u32];omega
          have qx:Hid (gt<2^32):=gg;have xi:Hid (d'≤1):=q5;by_cases kr:d'=0
          ·subst kr;have sb:=Own.cell (DS.q ao.out) (i:=A) cd;have sh:=Own.frozen (DS.q ao.out) (i:=A) cd;have ep:=hi9 (DInv.right U.out eK ci.out cz.out ee.out);clear cn cx cy q6 q7 q5 hx hc hd Y cc;go_wp2_with fail
           go_roundw
           case rel=>exact⟨A,B.set (A+n) rr,qs.set A gt,by omega,by go_num,DS.setQ ao.out A gt cd qx.out,ep.out⟩
           case measure=>simp [intOf]
          ·obtain rfl:d'=1:=by omega
           have lb:0<gt:=by
            rcases bo gt with h0|h0
            ·exfalso;have h1:=ee.out;rw[h0,cw,aS,bJ] at h1;have h2:=kZ (DS.u ao.out).1 cm.out;rw[h1] at h2;exact absurd h2 (Nat.not_lt.2 (eh _ _))
            ·exact h0
           obtain⟨gm,bz⟩:∃ gm,gt-1=gm:=⟨_,rfl⟩;have vo:IntKind.u64.wrap ((gt:Int)-1)=gm:=by rw[IntKind.wrap_u64];omega
           have si:IntKind.u32.wrap (gm:Int)=gm:=by rw[IntKind.wrap_u32];omega
           have qb:=hi9 bz;have hw:Hid (gm<2^32):=by show gm<2^32;omega
           have hk:Hid (BK (B.set (A+n) rr) (B.set (A+n) rr) vl A n0 0 0):=BK.start (us:=B.set (A+n) rr) (vl:=vl) cm.out;clear cn cx cy q6 q7 q5 hx hc hd Y cc kr lb bz;go_wp2_with fail
           as_aux_lemma=>
            clear bn bs q1 q2 q3 q4;generalize li:wr.setCell ⟨D,A+n,none⟩ (.int .u32 (rr:Int))=w3 at *;clear li;generalize ed:B.set (A+n) rr=lx at *;have uk:=hi9 ed;clear ed am
            go_loopw [22,27] (fun vc vi w4=>∃ (i c:Nat) (C:List Nat),i≤n∧vi= .int .i64 i∧vc= .int .u64 c∧c≤1∧DS w w4 D bq Z ov C qs vl∧BK lx C vl A n0 i c) (fun _ vi _=>n-(intOf vi).toNat)
            case atStart=>exact⟨0,0,lx,bC _,rfl,rfl,by omega,ao.out,hk.out⟩
            case round=>
             obtain⟨i,c,C,hi,rfl,rfl,hc,X,gd⟩:=hrel;have O:Hid (DS w wr D bq Z ov C qs vl):=X;have en:=hi9 gd;have yf:C.length=j+2:=gd.1.trans (ci.out.trans dk.out);clear X gd hk;have sa:(c:Int)≤1:=by omega
             have sj:(i:Int)≤300002:=by omega
             by_cases Y:i<n
             ·as_aux_lemma=>
               have am:decide (i<n)=true:=by simp;omega
               have kq:=DS.cv (vl:=vl) O.out (i:=i) (by rw[bi.out];have:=E.out;omega);have F:i+A<C.length:=by have h1:=al.out;omega
               have bn:=Own.cell (DS.u O.out:Own wr D C) (i:=i+A) F;have bs:=Own.frozen (DS.u O.out:Own wr D C) (i:=i+A) F;have hy:=eO fs.out i;have hx:=eO (DS.u O.out:Own wr D C).1 (i+A);obtain⟨S,c',q1,q2,q3,q4,q5⟩:=rE c _ _ hc hx hy;have fr:Hid _:=BK.step en.out (by have:=E.out;omega) (by rw[ci.out];exact ce.out) q5;have qy:Hid (c'≤1):=q3;have ra:Hid (S<2^32):=q4;generalize vl.getD i 0=y at *;generalize C.getD (i+A) 0=x at *;have tf:(y:Int)≤4294967295:=by omega
               have gk:(x:Int)≤4294967295:=by omega
               have kx:i+A<j+2:=by omega
               have cr:i+1≤n:=Y;have fp:Hid (i+A<C.length):=F;have dr:D<wr.heap.size:=(DS.u O.out:Own wr D C).2.1;have ww:Z<wr.heap.size:=by omega
               clear q3 q4 q5 hx hy hc Y F;go_wp2_with fail;refine eV eM eM ?_;intro W hW;have yq:=ik (w:=W) ⟨D,i+A,none⟩ (.int .u32 (x:Int));have yr:=ik (w:=W) ⟨Z,ov+i,none⟩ (.int .u32 (y:Int));clear hW
               repeat (go_big_quiet_step (fail))
               refine wpQuiet_nil ?_;clear yq yr;intro tg an;have ap:Hid (DS w tg D bq Z ov C qs vl):=DS.grow O.out an;have uz:=an.cell dr bn;have vk:=an.frozen dr bs;clear bn bs kq an;go_wp2_with fail
               go_roundw
               case rel=>exact⟨i+1,c',C.set (i+A) S,cr,by go_num,rfl,qy.out,DS.setU ap.out (i+A) S fp.out ra.out,fr.out⟩
               case measure=>simp only[intOf];omega
             ·as_aux_lemma=>
               have am:decide (i<n)=false:=by simp;omega
               have cc:i=n0+2:=by have:=E.out;omega
               rw[cc] at en;have N:A+n<C.length:=by have h1:=al.out;omega
               have bn:=Own.cell (DS.u O.out:Own wr D C) (i:=A+n) N;have bs:=Own.frozen (DS.u O.out:Own wr D C) (i:=A+n) N;have hx:=eO (DS.u O.out:Own wr D C).1 (A+n);obtain⟨S,kk,q1,q2,q3⟩:=pJ c (C.getD (A+n) 0);have I:=BK.fin en.out bi.out it.out (by rw[ci.out];exact ce.out) (r:=S) (k:=kk) (by rw[← E.out];exact q3);rw[← E.out] at I;have ap:Hid (DS w (wr.setCell ⟨D,A+n,none⟩ (.int .u32 (S:Int))) D bq Z ov (C.set (A+n) S) qs vl):=DS.setU O.out (A+n) S N q2;have gk:(C.getD (A+n) 0:Int)≤4294967295:=by omega
               have dq:b*2^e<2^(32*(n0+2)):=rb.out;have fv:=DInv.back U.out eK (I.1.trans ci.out) cz.out io.out dq (DS.u ao.out).1 cm.out ee.out (DS.u ap.out).1 I.2.1 I.2.2;rw[qb.out] at fv;have ep:=hi9 fv.1;generalize C.getD (A+n) 0=x at *;have sb:=Own.cell (DS.q ap.out) (i:=A) cd;have sh:=Own.frozen (DS.q ap.out) (i:=A) cd;have xz:IntKind.u32.wrap (c:Int)=c:=by rw[IntKind.wrap_u32];omega
               clear I fv dq q2 q3 hx hc Y cc;go_wp2_with fail
               go_roundw
               case rel=>exact⟨A,C.set (A+n) S,qs.set A gm,by omega,by go_num,DS.setQ ap.out A gm cd hw.out,ep.out⟩
               case measure=>simp [intOf]
     have pv:decide (q<p)=true:=by simp;omega
     obtain⟨g',gf⟩:∃ g',g=g'+1:=by
      rcases g with _|g'
      ·rw[cw] at ot;omega
      ·exact⟨g',rfl⟩
     have bz:IntKind.u64.wrap ((g:Int)-1)=g':=by rw[IntKind.wrap_u64];omega
     have mo:Hid _:=gf;have ec:g'*top+(r+top)=h:=by rw[← hz.out.1,gf,aJ];omega
     have ii:=hi9 ec;have cz:Hid (val us<(g'+1)*(2^(32*A)*(b*2^e))):=by rw[← mo.out];exact uj.out g r hz.out.1 (by rw[← ue.out,← uf.out];exact su)
     clear po ot sy su
    case' pos=>
     rw[show decide (4294967295<g)=true from by simp;omega] at gz;obtain⟨g',gf⟩:∃ g',g=g'+1:=⟨g-1,by omega⟩;have bz:IntKind.u64.wrap ((g:Int)-1)=g':=by rw[IntKind.wrap_u64];omega
     have mo:Hid _:=gf;have ec:g'*top+(r+top)=h:=by rw[← hz.out.1,gf,aJ];omega
     have ii:=hi9 ec;have cz:Hid (val us<(g'+1)*(2^(32*A)*(b*2^e))):=by rw[← mo.out];exact ua.out g hg
    all_goals as_aux_lemma=>
     by_cases hr:4294967295<r+top
     ·rw[show decide (4294967295<r+top)=true from by simp;omega] at hf;have rs:=tk.out g' (r+top) ii.out eK;have io:Hid (g'*(2^(32*A)*(b*2^e))<val us+2^(32*A)*(b*2^e)):=rs.2;have gg:g'<4294967296:=rs.1;clear hr hg gf ec rs;go_wp2_with fail;clear gz hf bz ds vn;obtain⟨gt,ea⟩:∃ gt:Nat,gt=g':=⟨g',rfl⟩;rw[← ea] at cz io gg ⊢;clear ea
      as_aux_lemma=>
       have vq:(gt:Int)≤4294967295:=by omega
       go_loopw [22,23,24] (fun vc vd vi w2=>∃ (i c d:Nat) (B:List Nat),i≤n∧vi= .int .i64 i∧vc= .int .u64 c∧vd= .int .u64 d∧c<4294967296∧d≤1∧DS w w2 D bq Z ov B qs vl∧AW us B vl A n0 i gt c d) (fun _ _ vi _=>n-(intOf vi).toNat)
       case atStart=>exact⟨0,0,0,us,bC _,rfl,rfl,rfl,by omega,by omega,J.out,AW.start tq.out⟩
       case round=>
        obtain⟨i,c,d,B,hi,rfl,rfl,rfl,hc,hd,X,ga⟩:=hrel;have R:Hid (DS w wr D bq Z ov B qs vl):=X;have em:=hi9 ga;have sp:B.length=j+2:=ga.1.trans dk.out;clear X ga J;have sa:(c:Int)≤4294967295:=by omega
        have ya:(d:Int)≤1:=by omega
        have sj:(i:Int)≤300002:=by omega
        by_cases Y:i<n
        ·as_aux_lemma=>
          have am:decide (i<n)=true:=by simp;omega
          have kq:=DS.cv (vl:=vl) R.out (i:=i) (by rw[bi.out];have:=E.out;omega);have F:i+A<B.length:=by have h1:=al.out;omega
          have bn:=Own.cell (DS.u R.out:Own wr D B) (i:=i+A) F;have bs:=Own.frozen (DS.u R.out:Own wr D B) (i:=i+A) F;have hy:=eO fs.out i;have hx:=eO (DS.u R.out:Own wr D B).1 (i+A);obtain⟨p,lo,t0,tt,rr,d',c',q1,q2,q3,q4,q5,q6,q7,q8,q9,lk,lm,ls,lw⟩:=rC gt c d _ _ gg hc hd hx hy;have fr:Hid _:=AW.step em.out (by have:=E.out;omega) ce.out lw;have ia:Hid (d'≤1):=lk;have ib:Hid (c'<2^32):=lm;have ih:Hid (rr<2^32):=ls;generalize vl.getD i 0=y at *;generalize B.getD (i+A) 0=x at *;have tf:(y:Int)≤4294967295:=by omega
          have gk:(x:Int)≤4294967295:=by omega
          have st:(p:Int)≤18446744065119617025:=by omega
          have vx:(lo:Int)≤4294967295:=by omega
          have kx:i+A<j+2:=by omega
          have cr:i+1≤n:=Y;have sq:n-(i+1)<n-i:=by omega
          have fp:Hid (i+A<B.length):=F;clear q2 q4 lk lm ls lw hx hy hc hd Y F;go_wp2_with fail
          go_roundw
          case rel=>exact⟨i+1,c',d',B.set (i+A) rr,cr,by go_num,rfl,rfl,ib.out,ia.out,DS.setU R.out (i+A) rr fp.out ih.out,fr.out⟩
          case measure=>simp only[intOf];omega
        ·as_aux_lemma=>
          have am:decide (i<n)=false:=by simp;omega
          have cc:i=n0+2:=by have:=E.out;omega
          rw[cc] at em;have N:A+n<B.length:=by have h1:=al.out;omega
          have bn:=Own.cell (DS.u R.out:Own wr D B) (i:=A+n) N;have bs:=Own.frozen (DS.u R.out:Own wr D B) (i:=A+n) N;have hx:=eO (DS.u R.out:Own wr D B).1 (A+n);obtain⟨t0,tt,rr,d',q1,q2,q3,q4,q5,q6,q7⟩:=mD c d _ hc hd hx;have I:=AW.fin em.out bi.out it.out ce.out (r:=rr) (d':=d') (by rw[← E.out];exact q7);rw[← E.out] at I;have ao:Hid (DS w (wr.setCell ⟨D,A+n,none⟩ (.int .u32 (rr:Int))) D bq Z ov (B.set (A+n) rr) qs vl):=DS.setU R.out (A+n) rr N q6;have gk:(B.getD (A+n) 0:Int)≤4294967295:=by omega
          obtain⟨cn,cx,cy⟩:=I;have ci:=hi9 cn;have cm:Hid _:=cx;have ee:=hi9 cy;generalize B.getD (A+n) 0=x at *;have xm:=hi9 q7;have cd:A<qs.length:=by rw[uh.out];omega
          have oj:IntKind.u32.wrap (gt:Int)=gt:=by rw[IntKind.wrap_u32];omega
          have qx:Hid (gt<2^32):=gg;have xi:Hid (d'≤1):=q5;by_cases kr:d'=0
          ·subst kr;have sb:=Own.cell (DS.q ao.out) (i:=A) cd;have sh:=Own.frozen (DS.q ao.out) (i:=A) cd;have ep:=hi9 (DInv.right U.out eK ci.out cz.out ee.out);clear cn cx cy q6 q7 q5 hx hc hd Y cc;go_wp2_with fail
           go_roundw
           case rel=>exact⟨A,B.set (A+n) rr,qs.set A gt,by omega,by go_num,DS.setQ ao.out A gt cd qx.out,ep.out⟩
           case measure=>simp [intOf]
          ·obtain rfl:d'=1:=by omega
           have lb:0<gt:=by
            rcases bo gt with h0|h0
            ·exfalso;have h1:=ee.out;rw[h0,cw,aS,bJ] at h1;have h2:=kZ (DS.u ao.out).1 cm.out;rw[h1] at h2;exact absurd h2 (Nat.not_lt.2 (eh _ _))
            ·exact h0
           obtain⟨gm,bz⟩:∃ gm,gt-1=gm:=⟨_,rfl⟩;have vo:IntKind.u64.wrap ((gt:Int)-1)=gm:=by rw[IntKind.wrap_u64];omega
           have si:IntKind.u32.wrap (gm:Int)=gm:=by rw[IntKind.wrap_u32];omega
           have qb:=hi9 bz;have hw:Hid (gm<2^32):=by show gm<2^32;omega
           have hk:Hid (BK (B.set (A+n) rr) (B.set (A+n) rr) vl A n0 0 0):=BK.start (us:=B.set (A+n) rr) (vl:=vl) cm.out;clear cn cx cy q6 q7 q5 hx hc hd Y cc kr lb bz;go_wp2_with fail
           as_aux_lemma=>
            clear bn bs q1 q2 q3 q4;generalize li:wr.setCell ⟨D,A+n,none⟩ (.int .u32 (rr:Int))=w3 at *;clear li;generalize ed:B.set (A+n) rr=lx at *;have uk:=hi9 ed;clear ed am
            go_loopw [22,27] (fun vc vi w4=>∃ (i c:Nat) (C:List Nat),i≤n∧vi= .int .i64 i∧vc= .int .u64 c∧c≤1∧DS w w4 D bq Z ov C qs vl∧BK lx C vl A n0 i c) (fun _ vi _=>n-(intOf vi).toNat)
            case atStart=>exact⟨0,0,lx,bC _,rfl,rfl,by omega,ao.out,hk.out⟩
            case round=>
             obtain⟨i,c,C,hi,rfl,rfl,hc,X,gd⟩:=hrel;have O:Hid (DS w wr D bq Z ov C qs vl):=X;have en:=hi9 gd;have yf:C.length=j+2:=gd.1.trans (ci.out.trans dk.out);clear X gd hk;have sa:(c:Int)≤1:=by omega
             have sj:(i:Int)≤300002:=by omega
             by_cases Y:i<n
             ·as_aux_lemma=>
               have am:decide (i<n)=true:=by simp;omega
               have kq:=DS.cv (vl:=vl) O.out (i:=i) (by rw[bi.out];have:=E.out;omega);have F:i+A<C.length:=by have h1:=al.out;omega
               have bn:=Own.cell (DS.u O.out:Own wr D C) (i:=i+A) F;have bs:=Own.frozen (DS.u O.out:Own wr D C) (i:=i+A) F;have hy:=eO fs.out i;have hx:=eO (DS.u O.out:Own wr D C).1 (i+A);obtain⟨S,c',q1,q2,q3,q4,q5⟩:=rE c _ _ hc hx hy;have fr:Hid _:=BK.step en.out (by have:=E.out;omega) (by rw[ci.out];exact ce.out) q5;have qy:Hid (c'≤1):=q3;have ra:Hid (S<2^32):=q4;generalize vl.getD i 0=y at *;generalize C.getD (i+A) 0=x at *;have tf:(y:Int)≤4294967295:=by omega
               have gk:(x:Int)≤4294967295:=by omega
               have kx:i+A<j+2:=by omega
               have cr:i+1≤n:=Y;have fp:Hid (i+A<C.length):=F;have dr:D<wr.heap.size:=(DS.u O.out:Own wr D C).2.1;have ww:Z<wr.heap.size:=by omega
               clear q3 q4 q5 hx hy hc Y F;go_wp2_with fail;refine eV eM eM ?_;intro W hW;have ys:=ik (w:=W) ⟨D,i+A,none⟩ (.int .u32 (x:Int));have yt:=ik (w:=W) ⟨Z,ov+i,none⟩ (.int .u32 (y:Int));clear hW
               repeat (go_big_quiet_step (fail))
               refine wpQuiet_nil ?_;clear ys yt;intro tg an;have ap:Hid (DS w tg D bq Z ov C qs vl):=DS.grow O.out an;have uz:=an.cell dr bn;have vk:=an.frozen dr bs;clear bn bs kq an;go_wp2_with fail
               go_roundw
               case rel=>exact⟨i+1,c',C.set (i+A) S,cr,by go_num,rfl,qy.out,DS.setU ap.out (i+A) S fp.out ra.out,fr.out⟩
               case measure=>simp only[intOf];omega
             ·as_aux_lemma=>
               have am:decide (i<n)=false:=by simp;omega
               have cc:i=n0+2:=by have:=E.out;omega
               rw[cc] at en;have N:A+n<C.length:=by have h1:=al.out;omega
               have bn:=Own.cell (DS.u O.out:Own wr D C) (i:=A+n) N;have bs:=Own.frozen (DS.u O.out:Own wr D C) (i:=A+n) N;have hx:=eO (DS.u O.out:Own wr D C).1 (A+n);obtain⟨S,kk,q1,q2,q3⟩:=pJ c (C.getD (A+n) 0);have I:=BK.fin en.out bi.out it.out (by rw[ci.out];exact ce.out) (r:=S) (k:=kk) (by rw[← E.out];exact q3);rw[← E.out] at I;have ap:Hid (DS w (wr.setCell ⟨D,A+n,none⟩ (.int .u32 (S:Int))) D bq Z ov (C.set (A+n) S) qs vl):=DS.setU O.out (A+n) S N q2;have gk:(C.getD (A+n) 0:Int)≤4294967295:=by omega
               have dq:b*2^e<2^(32*(n0+2)):=rb.out;have fv:=DInv.back U.out eK (I.1.trans ci.out) cz.out io.out dq (DS.u ao.out).1 cm.out ee.out (DS.u ap.out).1 I.2.1 I.2.2;rw[qb.out] at fv;have ep:=hi9 fv.1;generalize C.getD (A+n) 0=x at *;have sb:=Own.cell (DS.q ap.out) (i:=A) cd;have sh:=Own.frozen (DS.q ap.out) (i:=A) cd;have xz:IntKind.u32.wrap (c:Int)=c:=by rw[IntKind.wrap_u32];omega
               clear I fv dq q2 q3 hx hc Y cc;go_wp2_with fail
               go_roundw
               case rel=>exact⟨A,C.set (A+n) S,qs.set A gm,by omega,by go_num,DS.setQ ap.out A gm cd hw.out,ep.out⟩
               case measure=>simp [intOf]
     ·rw[show decide (4294967295<r+top)=false from by simp;omega] at hf;have yw:r+top<4294967296:=by omega
      have yb:g'≤4294967297:=by omega
      clear hr hg gf ec;go_wp2_with fail
      go_roundw
      case rel=>exact⟨g',r+top,rfl,by go_num,yb,yw,⟨ii.out,cz.out⟩,J.out⟩
      case measure=>have:=mo.out;simp only[intOf];omega
