/- What is proved here: contracts of the reference's big numbers: div, word by word from above, over this seat's translation. -/
import Derived.Test.YtfnkkkcojnffdaaGreatDoorC1
import Derived.Test.YtfnkkkcojnffdaaGreatDoorC8
import Derived.Test.YtfnkkkcojnffdaaGreatDoorC3
import Derived.Test.YtfnkkkcojnffdaaGreatDoorC22
import Derived.Test.YtfnkkkcojnffdaaGreatDoorC12
namespace Go.Proofs.YtfnkkkcojnffdaaGreatDoor
open Go.ChangeShapes Go.WideShapes Go.ChangeAt Go.RowKit
open BN
/-- A call hands back the canonical slices of two numbers. -/
def gv (w:World) (x y:Nat) (e:Ending) (A:World):Prop:=∃ v u,e= .returned (.tuple #[v,u])∧G w A∧Num A v x∧Num A u y
/-- A slice of n words whose number has its highest bit. -/
theorem q0l {w:World} {v:Value} {V n0:Nat} (h:Num w v V) (h1:2^(32*(n0+1)+31)≤V) (h2:V<2^(32*(n0+1+1))):
  ∃ (b o c:Nat) (l:List Nat),v= .slice (some ⟨b,o,none⟩) (n0+2:Nat) c∧n0+2≤c∧b<w.heap.size∧okw l∧l.length=n0+2∧val l=V∧Row w b o l∧2^31≤l.getD (n0+1) 0:=by
 obtain⟨l,I,A,rfl⟩:=h;have h3:=dX A h2;have D:=eo A.1;have E:2^(32*(n0+1))<2^(32*l.length):=aG (ch (ak dT dT) h1) D;have h6:=(aY (by omega:1<2)).1 E;have B:l.length=n0+2:=by omega
 rcases Sl.cases I with ⟨rfl,-⟩|⟨-,b,o,c,rfl,F,hb,J⟩
 ·simp at B
 ·refine⟨b,o,c,l,by rw[B],by omega,hb,A.1,B,rfl,J,?_⟩;have C:=ew (l:=l) (k:=n0+1) dT;rw[aL dT] at C;simp only[val,bm,aP] at C;have K:=et A.1 (n0+1) dT;rw[ah] at h1;rcases bg (l.getD (n0+1) 0) (2^31) with h|h
  ·exfalso;have:2^(32*(n0+1))*(l.getD (n0+1) 0+1)≤2^(32*(n0+1))*2^31:=au _ h;rw[ax,bw] at this;omega
  ·exact h
theorem q1F {w:World} {v:Value} {V:Nat} (h:Num w v V) (C:V≠0) (k:Nat) (D:V<2^(32*k)):
  ∃ (b o c:Nat) (l:List Nat),v= .slice (some ⟨b,o,none⟩) l.length c∧l.length≤c∧b<w.heap.size∧okw l∧l.length≤k∧val l=V∧Row w b o l:=by
 obtain⟨l,E,B,rfl⟩:=h;rcases Sl.cases E with ⟨rfl,-⟩|⟨-,b,o,c,rfl,A,hb,F⟩
 ·exact absurd rfl C
 ·exact⟨b,o,c,l,rfl,A,hb,B.1,dX B D,rfl,F⟩
theorem gL {w:World} {b o:Nat} {l:List Nat} (h:Row w b o l):∀ j v,(l.map fun d=>Value.int .u32 (d:Nat))[j]? =some v→w.cell? ((⟨b,o,none⟩:Addr).add j)=some v:=by
 intro j u B;rw[db] at B;obtain⟨d,A,rfl⟩:=bI.1 B;have:=h j (aQ.1 A).1;rw[ab,A] at this;rw[addr_add];exact this
theorem gM (l:List Nat):∀ u∈(l.map fun d=>Value.int .u32 (d:Nat)),u.oneCell'=true:=by
 intro u hu;obtain⟨d,-,rfl⟩:=b6.1 hu;rfl
theorem Row.setCells {b o c:Nat} {l:List Nat} (hb:b≠c):∀ (cs:List Value) (w:World) (i:Nat),Row w b o l→Row (w.setCells c i cs) b o l
 |[],_,_,h=>h
 |v::cs,_,i,h=>Row.setCells hb cs _ _ (h.set (i:=i) (u:=v) hb)
set_option maxRecDepth 10000 in
set_option maxHeartbeats 8000000 in
theorem oB (w:World) (va vb:Value) (a b K:Nat) (hK:K≤300000) (ha:Num w va a) (hb:Num w vb b) (lm:a<2^(32*K)) (vf:b≤a) (vh:2^64≤a) (ve:2^32≤b):
  Calls Tryz.prog 159 #[va,vb] w (gv w (a/b) (a%b)):=by
 have pn:=ha;have ll:=hb;obtain⟨l,hl,ds,qt⟩:=ha;obtain⟨m,hm,lx,tf⟩:=hb;have yo:=dX ds (qt▸lm);have sy:2<l.length:=by
  rcases bg 2 l.length with h|h
  ·exact h
  ·have h1:=eo ds.1;have h2:2^(32*l.length)≤2^64:=ak dT dT;omega
 have yp:1<m.length:=by
  rcases bg 1 m.length with h|h
  ·exact h
  ·have h1:=eo lx.1;have h2:2^(32*m.length)≤2^32:=ak dT dT;omega
 have yq:m.length≤l.length:=by
  rcases bg l.length m.length with h|h
  ·have:=eE ds lx h;omega
  ·exact h
 obtain⟨n0,wk⟩:∃ n0,m.length=n0+2:=⟨m.length-2,by omega⟩;obtain⟨k,yi,yj,su,pp,pr⟩:=iG lx (n:=n0+1) dT;obtain⟨pa,ca,rfl,Ag,wv⟩:=ei hl;obtain⟨pb,cb,rfl,Ah,te⟩:=ei hm;have kr:=hi9 (gN w _ _ a b K dT pn ll lm dT);have io:Hid (∀ s,G w s→_):=fun s g=>pY s _ b K dT (ll.G g) dT;have pd:Hid (∀ s,G w s→_):=fun s g=>gR s _ b (32-k) K dT dT (ll.G g) dT;have pc:Hid (∀ s,G w s→_):=fun s g=>gR s _ a (32-k) K dT dT (pn.G g) lm;rw[tf] at su pp pr;have hc:decide (cmpV a b<0)=false:=by rw[decide_eq_false_iff_not];unfold cmpV;rw[if_neg dT];split<;>omega
 generalize cmpV a b=cv at *;generalize st:l.length=j at *;generalize vx:m.length=n at *;rw[su] at io;have HA:=hi9 wv;have HB:=hi9 te;have HJ:=hi9 st;have xl:=hi9 ds;have xm:=hi9 lx;have bi:=hi9 qt;have xw:=hi9 tf;have E:=hi9 wk;have Ac:=hi9 vx;have zt:(2:Int)≤n:=by omega
 have Ab:=hi9 vf;have Aa:=hi9 lm;have xi:=hi9 pn;have xk:=hi9 ll;have t1:decide ((j:Int)≤2)=false:=by simp;omega
 have t2:((n:Int)==0)=false:=by simp;omega
 have t3:((n:Int)==1)=false:=by simp;omega
 have Ak:(j:Int)≤300000:=by omega
 have An:(n:Int)≤j:=by omega
 have vz:(1:Int)≤k:=by omega
 have wa:(k:Int)≤32:=by omega
 obtain⟨mm,wj⟩:∃ mm,j+1=n+mm:=⟨j+1-n,by omega⟩;have Am:(j:Int)+2-n-1=mm:=by omega
 have zq:(1:Int)≤mm:=by omega
 have zr:(mm:Int)≤300000:=by omega
 have wh:=fc (j+2) dT;rw[show ((j+2:Nat):Int)=(j:Int)+2 from by omega] at wh;have wi:=fc (mm+1) dT;rw[show ((mm+1:Nat):Int)=(mm:Int)+1 from by omega] at wi;have xp:=hi9 wj;obtain⟨e,he⟩:∃ e:Nat,e=32-k:=⟨_,rfl⟩;rw[← he] at pc pd pp pr;have hs:32-((((32*(n0+1)+k:Nat):Int)-1)%32)-1=e:=by omega
 have Ai:(e:Int)≤31:=by omega
 have Af:((32*(n0+1)+k:Nat):Int)≤20000000:=by omega
 have zm:(1:Int)≤((32*(n0+1)+k:Nat):Int):=by omega
 generalize 32*(n0+1)+k=L at *;have ur:=hi9 pp;have sd:=hi9 pr
 have uz:a*2^e≠0:=by have:=ae e;have:0<a:=by omega
                     exact Nat.pos_iff_ne_zero.1 (bT this kV)
 have ps:a*2^e<2^(32*(j+1)):=by
  have h1:=eo ds.1;rw[qt,st] at h1;have h2:a*2^e<2^(32*j)*2^e:=aD h1 (ae _);have h3:2^(32*j)*2^e≤2^(32*(j+1)):=by rw[← ah];exact ak dT dT
  omega
 have tm:=hi9 uz;have xj:Hid (0<b):=ad dT ve;have tp:=hi9 ps;have tq:Hid (a*2^e<2^(32*(n0+1+(mm+1)))):=by
  have h1:j+1=n0+1+(mm+1):=by omega
  rw[h1] at ps;exact ps
 clear uz ps;clear pp pr wv te st ds lx qt tf wk vx vf lm pn ll hl hm su hK vh ve yo sy yp yq yi yj wj he vz wa;clear xl xm bi xw xi xk;go_enter Tryz.func159,Tryz.ntmps159;go_wp2_with fail;refine dS kr.out ?_;rintro e1 s ⟨rfl,kb⟩;go_wp2_with fail;refine dS (io.out s kb) ?_;rintro e1 w2 ⟨rfl,ms⟩;have sf:=aa kb ms;go_wp2_with fail;refine dS (pd.out w2 sf) ?_;rintro e1 w3 ⟨v1,rfl,mv,qa⟩;obtain⟨Z,ov,Ad,vl,rfl,zi,wx,wz,np,xd,xa,xc⟩:=q0l qa ur.out sd.out;rw[← E.out] at zi;rw[← E.out];have po:=aa sf mv;have ut:=hi9 xa;have ho:=hi9 wz;have bi:=hi9 np;have lk:=hi9 xd;have uu:=hi9 xc;clear xa wz np xd xc qa kb ms mv sf;go_wp2_with fail;have cc:G w3 (w3.alloc (.cells (madeCells #[.int .u32 0] (j+2)) 149)):=(af _).alloc _;have ui:=hi9 (eA w3 (j+2) 149);have hle:w.heap.size≤w3.heap.size:=po.size;refine dS (pc.out _ (aa po cc)) ?_;rintro e1 w4 ⟨v2,rfl,pv,wn⟩;have pi:Hid (Own w4 w3.heap.size (List.replicate (j+2) 0)):=Own.grow ui.out pv;have uw:G w w4:=aa (aa po cc) pv;have rc:Hid (Row w4 Z ov vl):=Row.G (l:=vl) ut.out wx (aa cc pv);clear cc pv ui po;generalize w3.heap.size=D at *;obtain⟨bl,ol,cl,la,rfl,ym,yl,wb,yn,wg,we⟩:=q1F wn (tm.out) (j+1) tp.out;obtain⟨cs,pu⟩:∃ cs,cs=la.map (fun d=>Value.int .u32 (d:Nat)):=⟨_,rfl⟩;have ds:cs.length=la.length:=by rw[pu,cu]
 have nl:=gL we;have se:=gM la;rw[← pu] at nl se;have pm:Hid _:=Own.cells (o:=0) pi.out wb (by simp;omega);rw[← pu] at pm;have it:∀ i,i<cs.length→(w4.cell? ⟨D,0+i,none⟩).isSome=true:=fun i hi=>by
  rw[az,Own.cell (l:=List.replicate (j+2) 0) pi.out (by simp;omega)];rfl
 have lw:∀ i,i<cs.length→w4.frozen? ⟨D,0+i,none⟩=false:=fun i hi=>by
  rw[az];exact Own.frozen (l:=List.replicate (j+2) 0) pi.out (by simp;omega)
 have rp:cs.length=Nat.min la.length (j+2):=by rw[ds];exact(bE dT).symm
 have ru:val ((List.replicate (j+2) 0).take 0++(la++(List.replicate (j+2) 0).drop (0+la.length)))=a*2^e:=by
  rw[List.take_zero,cK,val_append,List.drop_replicate,fZ,wg];simp
 have rn:((List.replicate (j+2) 0).take 0++(la++(List.replicate (j+2) 0).drop (0+la.length))).length=j+2:=by simp;omega
 generalize (List.replicate (j+2) 0).take 0++(la++(List.replicate (j+2) 0).drop (0+la.length))=us at *;have zw:=run_copy_cells (P:=Tryz.prog) w4 41 41 3 149 D 0 (j+2) (j+2) ⟨bl,ol,none⟩ la.length cl cs Tryz.underlying41 dV rp nl it lw se;have ux:G w (w4.setCells D 0 cs):=G.setCells hle cs _ _ uw;have re:Hid (Row (w4.setCells D 0 cs) Z ov vl):=Row.setCells dT cs _ _ rc.out;generalize zl:w4.setCells D 0 cs=w5 at *;have uq:=hi9 ru;have dr:=hi9 rn;clear wn ym yl wb yn wg we pu ds nl se it lw rp ru rn uw rc pi ut tp tm zl;go_wp2_with fail;have uj:=hi9 (eA w5 (mm+1) 149);have px:G w5 (w5.alloc (.cells (madeCells #[.int .u32 0] (mm+1)) 149)):=(af _).alloc _;have ls:D<w5.heap.size:=(pm.out:Own w5 D us).2.1;have J:Hid (DS w _ D w5.heap.size Z ov us (List.replicate (mm+1) 0) vl):=DS.mk (aa ux px) hle wx ls (Own.grow pm.out px) uj.out (Row.G (l:=vl) re.out dT px);generalize w5.heap.size=bq at *;have zd:bq<(w5.alloc (.cells (madeCells #[.int .u32 0] (mm+1)) 149)).heap.size:=(J.out:DS w _ D bq Z ov us (List.replicate (mm+1) 0) vl).q.2.1;generalize w5.alloc (.cells (madeCells #[.int .u32 0] (mm+1)) 149)=w6 at *;have zn:D<bq:=ls;clear uj px pm re ux ls;obtain⟨p1,nd⟩:∃ p1,p1=n0+1:=⟨_,rfl⟩;have wl:(n:Int)-1=p1:=by have:=E.out;omega
 have wm:(n:Int)-2=n0:=by have:=E.out;omega
 have xq:=hi9 nd;have yd:w6.cell? ⟨Z,ov+p1,none⟩=some (.int .u32 (vl.getD p1 0:Nat)):=DS.cv (vl:=vl) J.out (by rw[bi.out,nd];omega);have yc:w6.cell? ⟨Z,ov+n0,none⟩=some (.int .u32 (vl.getD n0 0:Nat)):=DS.cv (vl:=vl) J.out (by rw[bi.out];omega);have ze:vl.getD p1 0<2^32:=dW ho.out p1;have yr:vl.getD n0 0<2^32:=dW ho.out n0;have xz:2^31≤vl.getD p1 0:=by rw[nd];exact uu.out
 have uc:Hid (∀ us A,okw us→A+n0+2<us.length→val us<2^(32*(A+1))*(b*2^e)→_):=fun us A h1 h2 h3=>l4 h1 ho.out bi.out lk.out h2 h3;clear uu;rw[← nd] at uc;have Ao:p1<n:=by have:=E.out;omega
 have zs:n0<n:=by have:=E.out;omega
 clear nd;generalize rs:vl.getD p1 0=top at *;generalize ta:vl.getD n0 0=next at *
 clear rs ta;have rs:(2147483648:Int)≤top:=by omega
 have zf:(top:Int)≤4294967295:=by omega
 have xh:(next:Int)≤4294967295:=by omega
 have zg:((top:Int)==0)=false:=by simp;omega
 clear ze yr xz;have wy:Z<w6.heap.size:=by omega
 refine ee dV dV ?_;intro W hW;have ys:=fT (w:=W) ⟨Z,ov+p1,none⟩ (.int .u32 (top:Int));have qq:=fT (w:=W) ⟨Z,ov+n0,none⟩ (.int .u32 (next:Int));clear hW
 repeat (go_big_quiet_step (fail))
 refine wpQuiet_nil ?_;clear ys qq;intro w7 xf;have ts:Hid (DS w w7 D bq Z ov us (List.replicate (mm+1) 0) vl):=DS.grow J.out xf;have uh:=hi9 (DInv.start (n0:=n0) (M:=mm+1) dr.out uq.out tq.out ur.out);clear yd yc J xf zd wy;go_wp2_with fail
 go_loopw [18] (fun vj wr=>∃ (t:Nat) (us qs:List Nat),t≤mm+1∧vj= .int .i64 ((t:Int)-1)∧DS w wr D bq Z ov us qs vl∧DInv us qs t (j+2) (mm+1) (b*2^e) (a*2^e)) (fun vj _=>(intOf vj+1).toNat)
 case atStart=>exact⟨mm+1,us,_,ay _,by congr 1;omega,ts.out,uh.out⟩
 case round=>
  obtain⟨t,us,qs,ht,rfl,X,rm⟩:=hrel;have J:=hi9 X;have U:=hi9 rm;clear X rm ts uh dr uq;cases t with
  |zero=>
   as_aux_lemma=>
    have vp:=DInv.fin U.out (ae e) xj.out;obtain⟨qq,wu⟩:=vp;have xt:Hid (∀ s,G wr s→Calls Tryz.prog 173 #[.slice (some ⟨bq,0,none⟩) (mm+1) (mm+1)] s (ef s (a/b))):=fun s g=>by
     rw[← qq];exact eC (Own.grow (DS.q J.out) g) U.out.2.1 dT
    have xu:Hid (∀ s,G wr s→Calls Tryz.prog 173 #[.slice (some ⟨D,0,none⟩) (j+2) (j+2)] s (ef s (val us))):=fun s g=>eC (Own.grow (DS.u J.out) g) U.out.1 dT;have xs:Hid (∀ s v,Num s v (val us)→Calls Tryz.prog 157 #[v,.int .u64 (e:Int)] s (ef s (a%b))):=fun s v hn=>by
     rw[← wu];exact fL s v (val us) e (j+2) dT dT hn (by have:=eo (DS.u J.out:Own wr D us).1;rwa[U.out.1] at this)
    have pz:=J.out.g;have xo:=hi9 pz;clear qq wu pz pc pd io kr HA HB;go_wp2_with fail;refine dS (xt.out wr (af _)) ?_;rintro e1 s ⟨v1,rfl,kb,wl⟩;go_wp2_with fail;refine dS (xu.out s kb) ?_;rintro e1 w2 ⟨v2,rfl,ms,wm⟩;go_wp2_with fail;refine dS (xs.out w2 v2 wm) ?_;rintro e1 w3 ⟨v3,rfl,mv,qa⟩;go_wp2_with fail
    go_ret2
    exact⟨_,_,rfl,aa xo.out (aa kb (aa ms mv)),wl.G (aa ms mv),qa⟩
  |succ A=>
   have zh:us.length=j+2:=U.out.1;have za:qs.length=mm+1:=U.out.2.1;have yh:A+n0+2<j+2:=by have:=xp.out;have:=E.out;omega
   have hJ:(A:Int)+n-1=((A+p1:Nat):Int):=by omega
   have Ae:(A:Int)+n-2=((A+n0:Nat):Int):=by omega
   have zo:(A:Int)≤300000:=by omega
   have vy:A+n<j+2:=by have:=E.out;omega
   have Al:A+p1<j+2:=by omega
   have zp:A+n0<j+2:=by omega
   have em:=(DS.u J.out:Own wr D us).1;have ya:=Own.cell (DS.u J.out:Own wr D us) (i:=A+n) dT;have yb:=Own.cell (DS.u J.out:Own wr D us) (i:=A+p1) dT;have ec:=Own.cell (DS.u J.out:Own wr D us) (i:=A+n0) dT;have xg:=dW em (A+n);have ti:=dW em (A+p1);have tj:=dW em (A+n0);have hF:=uc.out us A em dT U.out.2.2.1;rw[show A+n0+2=A+n from by have:=E.out;omega,show A+n0+1=A+p1 from by have:=xq.out;omega] at hF;obtain⟨cx,dk,dl,vn,sk,so,vo⟩:=hF;generalize us.getD (A+n) 0=u0 at *;generalize us.getD (A+p1) 0=u1 at *;generalize ww:us.getD (A+n0) 0=u2 at *;have xv:=hi9 ww;clear ww;obtain⟨h,g0,r0,zj,hh,zk,xe,vs,rk,zb,ri⟩:=q0t u0 u1 top xg ti dT cx;have uy:val us<(g0+1)*(2^(32*A)*(b*2^e)):=by
    rw[vs];refine q1t (u2:=u2) (P:=2^(32*(A+n0))) (by rw[hh];exact sk) tj (ch (aq _ dT) so) dT
   have un:Hid (val us<(g0+1)*(2^(32*A)*(b*2^e))):=uy;have tv:=hi9 cx;have tw:=hi9 dk;have tx:=hi9 dl;have ty:=hi9 vn;have ua:=hi9 sk;have ry:=hi9 so;have ub:=hi9 vo;have HH:=hi9 hh;have ue:=hi9 rk;have zx:(u0:Int)≤4294967295:=by omega
   have zy:(u1:Int)≤4294967295:=by omega
   have zz:(u2:Int)≤4294967295:=by omega
   have wo:(r0:Int)<top:=by omega
   have xx:Hid (u1<2^32):=ti;have xy:Hid (u2<2^32):=tj;have ud:Hid (g0≤4294967297):=ri;have al:Hid (A+n<j+2):=vy;have dr:=hi9 zh;have um:=hi9 za;have vk:D<wr.heap.size:=(DS.u J.out:Own wr D us).2.1;clear uy cx dk dl vn sk so vo hh rk vs xg ti tj zb ri em yh;clear pc pd io kr HA HB;go_wp2_with fail;refine ee dV dV ?_;intro W hW;have yt:=fT (w:=W) ⟨D,A+n,none⟩ (.int .u32 (u0:Int));have yu:=fT (w:=W) ⟨D,A+p1,none⟩ (.int .u32 (u1:Int));clear hW
   repeat (go_big_quiet_step (fail))
   refine wpQuiet_nil ?_;clear yt yu;intro w8 tg;have rv:Hid (DS w w8 D bq Z ov us qs vl):=DS.grow J.out tg;have rh:=tg.cell (p:=⟨D,A+n0,none⟩) vk ec;clear ya yb ec tg J;go_wp2_with fail;refine ee dV dV ?_;intro W hW;clear hW
   repeat (go_big_quiet_step (fail))
   refine wpQuiet_nil ?_;intro w9 th;have tu:Hid (DS w w9 D bq Z ov us qs vl):=DS.grow rv.out th;have rf:D<w8.heap.size:=(DS.u rv.out:Own w8 D us).2.1;have ec:=th.cell (p:=⟨D,A+n0,none⟩) rf rh;have wq:(r0:Int)≤4294967295:=by omega
   clear rh th rv rf ec vk zj zk;have rl:GS (val us) (2^(32*A)*(b*2^e)) h top g0 r0:=⟨ue.out,un.out⟩;have rb:=hi9 rl;have ws:r0<4294967296:=by omega
   clear rl;have uv:Hid (4294967296*2^(32*(A+n0))≤2^(32*A)*(b*2^e)):=ch (aq _ dT) ry.out;have ra:Hid (∀ g r,g*top+r=h→g<2^32→g*next≤r*2^32+u2→g*(2^(32*A)*(b*2^e))<val us+2^(32*A)*(b*2^e)):=fun g r k1 k2 k3=>oD (h:=h) (by rw[HH.out];exact ty.out) ub.out uv.out k1 k2 k3;have tr:Hid (∀ g r,g*top+r=h→2^32≤r→g<2^32∧g*(2^(32*A)*(b*2^e))<val us+2^(32*A)*(b*2^e)):=fun g r k1 k2=>by
    obtain⟨k3,k4⟩:=oC (u1:=u1) (u2:=u2) (next:=next) (by rw[HH.out];exact Nat.add_le_add_right (aq _ tv.out) _) xx.out k1 k2 dT;exact⟨k3,ra.out g r k1 k3 k4⟩
   have uf:Hid (∀ g,4294967295<g→val us<g*(2^(32*A)*(b*2^e))):=fun g k1=>ln tx.out dT;have uo:Hid (∀ g r,g*top+r=h→r*2^32+u2<g*next→val us<g*(2^(32*A)*(b*2^e))):=fun g r k1 k2=>mu (P:=2^(32*(A+n0))) (h:=h) (by rw[HH.out];exact ua.out) ry.out k1 k2;have ci:Hid (A+n0+2<us.length):=by
    have h0:us.length=j+2:=dr.out;have h1:A+n<j+2:=al.out;have h2:n=n0+2:=E.out;show A+n0+2<us.length;omega
   have zu:¬ D=bq:=by omega
   have zv:¬ bq=D:=by omega
   clear uv tv tx ty ua ry ub HH ue un;go_wp2_with fail;simp only[xe];clear xe
   go_loopw [20,21] (fun vg vr wr=>∃ g r:Nat,vg= .int .u64 g∧vr= .int .u64 r∧g≤4294967297∧r<4294967296∧GS (val us) (2^(32*A)*(b*2^e)) h top g r∧DS w wr D bq Z ov us qs vl) (fun vg _ _=>(intOf vg).toNat)
   case atStart=>exact⟨g0,r0,rfl,rfl,ud.out,by omega,rb.out,tu.out⟩
   case round=>
    obtain⟨g,r,rfl,rfl,Aj,te,vv,X⟩:=hrel;have kv:=hi9 vv;have J:=hi9 X;clear vv X tu rb ws wo wq;have ec:wr.cell? ⟨D,A+n0,none⟩=some (.int .u32 (us.getD (A+n0) 0:Nat)):=Own.cell (DS.u J.out:Own wr D us) (by have:=dr.out;omega);rw[xv.out] at ec;have vt:(g:Int)≤4294967297:=by omega
    have Ap:(r:Int)≤4294967295:=by omega
    have jp:decide ((4294967295:Int)<g)=decide (4294967295<g):=by congr 1;exact propext dT
    have jx:decide ((4294967295:Int)<(r:Int)+top)=decide (4294967295<r+top):=by congr 1;exact propext dT
    by_cases hg:4294967295<g
    case' neg=>
     rw[show decide (4294967295<g)=false from by simp;omega] at jp;have rj:g*next≤4294967295*4294967295:=cj dT dT
     obtain⟨p,hp,tb,qb⟩:∃ p:Nat,(g:Int)*next=p∧(p:Int)≤18446744065119617025∧p=g*next:=⟨g*next,by push_cast;rfl,by omega,rfl⟩
     obtain⟨q,hq,td⟩:∃ q:Nat,bits .or .u64 ((r:Int)*4294967296) (u2:Int)=q∧q=r*2^32+u2:=⟨_,pS r u2 dT xy.out,rfl⟩;have uk:=hi9 qb;have ul:=hi9 td;by_cases tc:q<p
     case neg=>
      have rq:decide (q<p)=false:=by simp;omega
      have li:Hid (g*(2^(32*A)*(b*2^e))<val us+2^(32*A)*(b*2^e)):=ra.out g r kv.out.1 dT (by rw[← uk.out,← ul.out];omega);have dq:Hid (val us<(g+1)*(2^(32*A)*(b*2^e))):=kv.out.2;have ih:g<4294967296:=by omega
      clear rj qb td tc jx hg vt;go_wp2_with fail;clear jp hp hq rq tb ec;obtain⟨gt,ek⟩:∃ gt:Nat,gt=g:=⟨g,rfl⟩;rw[← ek] at dq li ih ⊢;clear ek
      as_aux_lemma=>
       have vw:(gt:Int)≤4294967295:=by omega
       go_loopw [22,23,24] (fun vc vd vi w2=>∃ (i c d:Nat) (B:List Nat),i≤n∧vi= .int .i64 i∧vc= .int .u64 c∧vd= .int .u64 d∧c<4294967296∧d≤1∧DS w w2 D bq Z ov B qs vl∧AW us B vl A n0 i gt c d) (fun _ _ vi _=>n-(intOf vi).toNat)
       case atStart=>exact⟨0,0,0,us,bo _,rfl,rfl,rfl,by omega,by omega,J.out,AW.start tw.out⟩
       case round=>
        obtain⟨i,c,d,B,hi,rfl,rfl,rfl,hc,hd,X,hz⟩:=hrel;have R:Hid (DS w wr D bq Z ov B qs vl):=X;have ga:=hi9 hz;have sy:B.length=j+2:=hz.1.trans dr.out;clear X hz J;have si:(c:Int)≤4294967295:=by omega
        have yf:(d:Int)≤1:=by omega
        have ss:(i:Int)≤300002:=by omega
        by_cases Y:i<n
        ·as_aux_lemma=>
          have am:decide (i<n)=true:=by simp;omega
          have ly:=DS.cv (vl:=vl) R.out (i:=i) (by rw[bi.out];have:=E.out;omega);have F:i+A<B.length:=by have h1:=al.out;omega
          have bn:=Own.cell (DS.u R.out:Own wr D B) (i:=i+A) F;have bz:=Own.frozen (DS.u R.out:Own wr D B) (i:=i+A) F;have hy:=dW ho.out i;have hx:=dW (DS.u R.out:Own wr D B).1 (i+A);obtain⟨p,lo,t0,tt,rr,d',c',q1,q2,q3,q4,q5,q6,q7,q8,q9,ob,oi,oj,oo⟩:=p8 gt c d _ _ ih hc hd hx hy;have hk:Hid _:=AW.step ga.out (by have:=E.out;omega) ci.out oo;have kw:Hid (d'≤1):=ob;have lb:Hid (c'<2^32):=oi;have lc:Hid (rr<2^32):=oj;generalize vl.getD i 0=y at *;generalize B.getD (i+A) 0=x at *;have tk:(y:Int)≤4294967295:=by omega
          have ii:(x:Int)≤4294967295:=by omega
          have tb:(p:Int)≤18446744065119617025:=by omega
          have wc:(lo:Int)≤4294967295:=by omega
          have nc:i+A<j+2:=by omega
          have cz:i+1≤n:=Y;have sz:n-(i+1)<n-i:=by omega
          have hj:Hid (i+A<B.length):=F;clear q2 q4 ob oi oj oo hx hy hc hd Y F;go_wp2_with fail
          go_roundw
          case rel=>exact⟨i+1,c',d',B.set (i+A) rr,cz,by go_num,rfl,rfl,lb.out,kw.out,DS.setU R.out (i+A) rr hj.out lc.out,hk.out⟩
          case measure=>simp only[intOf];omega
        ·as_aux_lemma=>
          have am:decide (i<n)=false:=by simp;omega
          have cd:i=n0+2:=by have:=E.out;omega
          rw[cd] at ga;have N:A+n<B.length:=by have h1:=al.out;omega
          have bn:=Own.cell (DS.u R.out:Own wr D B) (i:=A+n) N;have bz:=Own.frozen (DS.u R.out:Own wr D B) (i:=A+n) N;have hx:=dW (DS.u R.out:Own wr D B).1 (A+n);obtain⟨t0,tt,rr,d',q1,q2,q3,q4,q5,q6,q7⟩:=ki c d _ hc hd hx;have I:=AW.fin ga.out bi.out lk.out ci.out (r:=rr) (d':=d') (by rw[← E.out];exact q7);rw[← E.out] at I;have ao:Hid (DS w (wr.setCell ⟨D,A+n,none⟩ (.int .u32 (rr:Int))) D bq Z ov (B.set (A+n) rr) qs vl):=DS.setU R.out (A+n) rr N q6;have ii:(B.getD (A+n) 0:Int)≤4294967295:=by omega
          obtain⟨cx,dk,dl⟩:=I;have cn:=hi9 cx;have cr:Hid _:=dk;have fv:=hi9 dl;generalize B.getD (A+n) 0=x at *;have xr:=hi9 q7;have ce:A<qs.length:=by rw[um.out];omega
          have pz:IntKind.u32.wrap (gt:Int)=gt:=by rw[IntKind.wrap_u32];omega
          have sa:Hid (gt<2^32):=ih;have xn:Hid (d'≤1):=q5;by_cases mp:d'=0
          ·subst mp;have sj:=Own.cell (DS.q ao.out) (i:=A) ce;have sp:=Own.frozen (DS.q ao.out) (i:=A) ce;have hf:=hi9 (DInv.right U.out dT cn.out dq.out fv.out);clear cx dk dl q6 q7 q5 hx hc hd Y cd;go_wp2_with fail
           go_roundw
           case rel=>exact⟨A,B.set (A+n) rr,qs.set A gt,by omega,by go_num,DS.setQ ao.out A gt ce sa.out,hf.out⟩
           case measure=>simp [intOf]
          ·obtain rfl:d'=1:=by omega
           have ng:0<gt:=by
            rcases bK gt with h0|h0
            ·exfalso;have h1:=fv.out;rw[h0,bJ,aP,bw] at h1;have h2:=je (DS.u ao.out).1 cr.out;rw[h1] at h2;exact absurd h2 (Nat.not_lt.2 (dG _ _))
            ·exact h0
           obtain⟨gm,cc⟩:∃ gm,gt-1=gm:=⟨_,rfl⟩;have vu:IntKind.u64.wrap ((gt:Int)-1)=gm:=by rw[IntKind.wrap_u64];omega
           have sq:IntKind.u32.wrap (gm:Int)=gm:=by rw[IntKind.wrap_u32];omega
           have rz:=hi9 cc;have ks:Hid (gm<2^32):=by show gm<2^32;omega
           have kq:Hid (BK (B.set (A+n) rr) (B.set (A+n) rr) vl A n0 0 0):=BK.start (us:=B.set (A+n) rr) (vl:=vl) cr.out;clear cx dk dl q6 q7 q5 hx hc hd Y cd mp ng cc;go_wp2_with fail
           as_aux_lemma=>
            clear bn bz q1 q2 q3 q4;generalize oa:wr.setCell ⟨D,A+n,none⟩ (.int .u32 (rr:Int))=w3 at *;clear oa;generalize fs:B.set (A+n) rr=ox at *;have up:=hi9 fs;clear fs am
            go_loopw [22,27] (fun vc vi w4=>∃ (i c:Nat) (C:List Nat),i≤n∧vi= .int .i64 i∧vc= .int .u64 c∧c≤1∧DS w w4 D bq Z ov C qs vl∧BK ox C vl A n0 i c) (fun _ vi _=>n-(intOf vi).toNat)
            case atStart=>exact⟨0,0,ox,bo _,rfl,rfl,by omega,ao.out,kq.out⟩
            case round=>
             obtain⟨i,c,C,hi,rfl,rfl,hc,X,ia⟩:=hrel;have O:Hid (DS w wr D bq Z ov C qs vl):=X;have gg:=hi9 ia;have yk:C.length=j+2:=ia.1.trans (cn.out.trans dr.out);clear X ia kq;have si:(c:Int)≤1:=by omega
             have ss:(i:Int)≤300002:=by omega
             by_cases Y:i<n
             ·as_aux_lemma=>
               have am:decide (i<n)=true:=by simp;omega
               have ly:=DS.cv (vl:=vl) O.out (i:=i) (by rw[bi.out];have:=E.out;omega);have F:i+A<C.length:=by have h1:=al.out;omega
               have bn:=Own.cell (DS.u O.out:Own wr D C) (i:=i+A) F;have bz:=Own.frozen (DS.u O.out:Own wr D C) (i:=i+A) F;have hy:=dW ho.out i;have hx:=dW (DS.u O.out:Own wr D C).1 (i+A);obtain⟨S,c',q1,q2,q3,q4,q5⟩:=pf c _ _ hc hx hy;have hk:Hid _:=BK.step gg.out (by have:=E.out;omega) (by rw[cn.out];exact ci.out) q5;have sb:Hid (c'≤1):=q3;have sc:Hid (S<2^32):=q4;generalize vl.getD i 0=y at *;generalize C.getD (i+A) 0=x at *;have tk:(y:Int)≤4294967295:=by omega
               have ii:(x:Int)≤4294967295:=by omega
               have nc:i+A<j+2:=by omega
               have cz:i+1≤n:=Y;have hj:Hid (i+A<C.length):=F;have eb:D<wr.heap.size:=(DS.u O.out:Own wr D C).2.1;have xb:Z<wr.heap.size:=by omega
               clear q3 q4 q5 hx hy hc Y F;go_wp2_with fail;refine ee dV dV ?_;intro W hW;have yv:=fT (w:=W) ⟨D,i+A,none⟩ (.int .u32 (x:Int));have yw:=fT (w:=W) ⟨Z,ov+i,none⟩ (.int .u32 (y:Int));clear hW
               repeat (go_big_quiet_step (fail))
               refine wpQuiet_nil ?_;clear yv yw;intro tl an;have ap:Hid (DS w tl D bq Z ov C qs vl):=DS.grow O.out an;have vm:=an.cell eb bn;have vq:=an.frozen eb bz;clear bn bz ly an;go_wp2_with fail
               go_roundw
               case rel=>exact⟨i+1,c',C.set (i+A) S,cz,by go_num,rfl,sb.out,DS.setU ap.out (i+A) S hj.out sc.out,hk.out⟩
               case measure=>simp only[intOf];omega
             ·as_aux_lemma=>
               have am:decide (i<n)=false:=by simp;omega
               have cd:i=n0+2:=by have:=E.out;omega
               rw[cd] at gg;have N:A+n<C.length:=by have h1:=al.out;omega
               have bn:=Own.cell (DS.u O.out:Own wr D C) (i:=A+n) N;have bz:=Own.frozen (DS.u O.out:Own wr D C) (i:=A+n) N;have hx:=dW (DS.u O.out:Own wr D C).1 (A+n);obtain⟨S,kk,q1,q2,q3⟩:=nh c (C.getD (A+n) 0);have I:=BK.fin gg.out bi.out lk.out (by rw[cn.out];exact ci.out) (r:=S) (k:=kk) (by rw[← E.out];exact q3);rw[← E.out] at I;have ap:Hid (DS w (wr.setCell ⟨D,A+n,none⟩ (.int .u32 (S:Int))) D bq Z ov (C.set (A+n) S) qs vl):=DS.setU O.out (A+n) S N q2;have ii:(C.getD (A+n) 0:Int)≤4294967295:=by omega
               have ea:b*2^e<2^(32*(n0+2)):=sd.out;have hw:=DInv.back U.out dT (I.1.trans cn.out) dq.out li.out ea (DS.u ao.out).1 cr.out fv.out (DS.u ap.out).1 I.2.1 I.2.2;rw[rz.out] at hw;have hf:=hi9 hw.1;generalize C.getD (A+n) 0=x at *;have sj:=Own.cell (DS.q ap.out) (i:=A) ce;have sp:=Own.frozen (DS.q ap.out) (i:=A) ce;have ye:IntKind.u32.wrap (c:Int)=c:=by rw[IntKind.wrap_u32];omega
               clear I hw ea q2 q3 hx hc Y cd;go_wp2_with fail
               go_roundw
               case rel=>exact⟨A,C.set (A+n) S,qs.set A gm,by omega,by go_num,DS.setQ ap.out A gm ce ks.out,hf.out⟩
               case measure=>simp [intOf]
     have rq:decide (q<p)=true:=by simp;omega
     obtain⟨g',ib⟩:∃ g',g=g'+1:=by
      rcases g with _|g'
      ·rw[bJ] at qb;omega
      ·exact⟨g',rfl⟩
     have cc:IntKind.u64.wrap ((g:Int)-1)=g':=by rw[IntKind.wrap_u64];omega
     have oy:Hid _:=ib;have ep:g'*top+(r+top)=h:=by rw[← kv.out.1,ib,aH];omega
     have lg:=hi9 ep;have dq:Hid (val us<(g'+1)*(2^(32*A)*(b*2^e))):=by rw[← oy.out];exact uo.out g r kv.out.1 (by rw[← uk.out,← ul.out];exact tc)
     clear rj qb td tc
    case' pos=>
     rw[show decide (4294967295<g)=true from by simp;omega] at jp;obtain⟨g',ib⟩:∃ g',g=g'+1:=⟨g-1,by omega⟩;have cc:IntKind.u64.wrap ((g:Int)-1)=g':=by rw[IntKind.wrap_u64];omega
     have oy:Hid _:=ib;have ep:g'*top+(r+top)=h:=by rw[← kv.out.1,ib,aH];omega
     have lg:=hi9 ep;have dq:Hid (val us<(g'+1)*(2^(32*A)*(b*2^e))):=by rw[← oy.out];exact uf.out g hg
    all_goals as_aux_lemma=>
     by_cases hr:4294967295<r+top
     ·rw[show decide (4294967295<r+top)=true from by simp;omega] at jx;have sh:=tr.out g' (r+top) lg.out dT;have li:Hid (g'*(2^(32*A)*(b*2^e))<val us+2^(32*A)*(b*2^e)):=sh.2;have ih:g'<4294967296:=sh.1;clear hr hg ib ep sh;go_wp2_with fail;clear jp jx cc ec vt;obtain⟨gt,ek⟩:∃ gt:Nat,gt=g':=⟨g',rfl⟩;rw[← ek] at dq li ih ⊢;clear ek
      as_aux_lemma=>
       have vw:(gt:Int)≤4294967295:=by omega
       go_loopw [22,23,24] (fun vc vd vi w2=>∃ (i c d:Nat) (B:List Nat),i≤n∧vi= .int .i64 i∧vc= .int .u64 c∧vd= .int .u64 d∧c<4294967296∧d≤1∧DS w w2 D bq Z ov B qs vl∧AW us B vl A n0 i gt c d) (fun _ _ vi _=>n-(intOf vi).toNat)
       case atStart=>exact⟨0,0,0,us,bo _,rfl,rfl,rfl,by omega,by omega,J.out,AW.start tw.out⟩
       case round=>
        obtain⟨i,c,d,B,hi,rfl,rfl,rfl,hc,hd,X,hz⟩:=hrel;have R:Hid (DS w wr D bq Z ov B qs vl):=X;have ga:=hi9 hz;have sy:B.length=j+2:=hz.1.trans dr.out;clear X hz J;have si:(c:Int)≤4294967295:=by omega
        have yf:(d:Int)≤1:=by omega
        have ss:(i:Int)≤300002:=by omega
        by_cases Y:i<n
        ·as_aux_lemma=>
          have am:decide (i<n)=true:=by simp;omega
          have ly:=DS.cv (vl:=vl) R.out (i:=i) (by rw[bi.out];have:=E.out;omega);have F:i+A<B.length:=by have h1:=al.out;omega
          have bn:=Own.cell (DS.u R.out:Own wr D B) (i:=i+A) F;have bz:=Own.frozen (DS.u R.out:Own wr D B) (i:=i+A) F;have hy:=dW ho.out i;have hx:=dW (DS.u R.out:Own wr D B).1 (i+A);obtain⟨p,lo,t0,tt,rr,d',c',q1,q2,q3,q4,q5,q6,q7,q8,q9,ob,oi,oj,oo⟩:=p8 gt c d _ _ ih hc hd hx hy;have hk:Hid _:=AW.step ga.out (by have:=E.out;omega) ci.out oo;have kw:Hid (d'≤1):=ob;have lb:Hid (c'<2^32):=oi;have lc:Hid (rr<2^32):=oj;generalize vl.getD i 0=y at *;generalize B.getD (i+A) 0=x at *;have tk:(y:Int)≤4294967295:=by omega
          have ii:(x:Int)≤4294967295:=by omega
          have tb:(p:Int)≤18446744065119617025:=by omega
          have wc:(lo:Int)≤4294967295:=by omega
          have nc:i+A<j+2:=by omega
          have cz:i+1≤n:=Y;have sz:n-(i+1)<n-i:=by omega
          have hj:Hid (i+A<B.length):=F;clear q2 q4 ob oi oj oo hx hy hc hd Y F;go_wp2_with fail
          go_roundw
          case rel=>exact⟨i+1,c',d',B.set (i+A) rr,cz,by go_num,rfl,rfl,lb.out,kw.out,DS.setU R.out (i+A) rr hj.out lc.out,hk.out⟩
          case measure=>simp only[intOf];omega
        ·as_aux_lemma=>
          have am:decide (i<n)=false:=by simp;omega
          have cd:i=n0+2:=by have:=E.out;omega
          rw[cd] at ga;have N:A+n<B.length:=by have h1:=al.out;omega
          have bn:=Own.cell (DS.u R.out:Own wr D B) (i:=A+n) N;have bz:=Own.frozen (DS.u R.out:Own wr D B) (i:=A+n) N;have hx:=dW (DS.u R.out:Own wr D B).1 (A+n);obtain⟨t0,tt,rr,d',q1,q2,q3,q4,q5,q6,q7⟩:=ki c d _ hc hd hx;have I:=AW.fin ga.out bi.out lk.out ci.out (r:=rr) (d':=d') (by rw[← E.out];exact q7);rw[← E.out] at I;have ao:Hid (DS w (wr.setCell ⟨D,A+n,none⟩ (.int .u32 (rr:Int))) D bq Z ov (B.set (A+n) rr) qs vl):=DS.setU R.out (A+n) rr N q6;have ii:(B.getD (A+n) 0:Int)≤4294967295:=by omega
          obtain⟨cx,dk,dl⟩:=I;have cn:=hi9 cx;have cr:Hid _:=dk;have fv:=hi9 dl;generalize B.getD (A+n) 0=x at *;have xr:=hi9 q7;have ce:A<qs.length:=by rw[um.out];omega
          have pz:IntKind.u32.wrap (gt:Int)=gt:=by rw[IntKind.wrap_u32];omega
          have sa:Hid (gt<2^32):=ih;have xn:Hid (d'≤1):=q5;by_cases mp:d'=0
          ·subst mp;have sj:=Own.cell (DS.q ao.out) (i:=A) ce;have sp:=Own.frozen (DS.q ao.out) (i:=A) ce;have hf:=hi9 (DInv.right U.out dT cn.out dq.out fv.out);clear cx dk dl q6 q7 q5 hx hc hd Y cd;go_wp2_with fail
           go_roundw
           case rel=>exact⟨A,B.set (A+n) rr,qs.set A gt,by omega,by go_num,DS.setQ ao.out A gt ce sa.out,hf.out⟩
           case measure=>simp [intOf]
          ·obtain rfl:d'=1:=by omega
           have ng:0<gt:=by
            rcases bK gt with h0|h0
            ·exfalso;have h1:=fv.out;rw[h0,bJ,aP,bw] at h1;have h2:=je (DS.u ao.out).1 cr.out;rw[h1] at h2;exact absurd h2 (Nat.not_lt.2 (dG _ _))
            ·exact h0
           obtain⟨gm,cc⟩:∃ gm,gt-1=gm:=⟨_,rfl⟩;have vu:IntKind.u64.wrap ((gt:Int)-1)=gm:=by rw[IntKind.wrap_u64];omega
           have sq:IntKind.u32.wrap (gm:Int)=gm:=by rw[IntKind.wrap_u32];omega
           have rz:=hi9 cc;have ks:Hid (gm<2^32):=by show gm<2^32;omega
           have kq:Hid (BK (B.set (A+n) rr) (B.set (A+n) rr) vl A n0 0 0):=BK.start (us:=B.set (A+n) rr) (vl:=vl) cr.out;clear cx dk dl q6 q7 q5 hx hc hd Y cd mp ng cc;go_wp2_with fail
           as_aux_lemma=>
            clear bn bz q1 q2 q3 q4;generalize oa:wr.setCell ⟨D,A+n,none⟩ (.int .u32 (rr:Int))=w3 at *;clear oa;generalize fs:B.set (A+n) rr=ox at *;have up:=hi9 fs;clear fs am
            go_loopw [22,27] (fun vc vi w4=>∃ (i c:Nat) (C:List Nat),i≤n∧vi= .int .i64 i∧vc= .int .u64 c∧c≤1∧DS w w4 D bq Z ov C qs vl∧BK ox C vl A n0 i c) (fun _ vi _=>n-(intOf vi).toNat)
            case atStart=>exact⟨0,0,ox,bo _,rfl,rfl,by omega,ao.out,kq.out⟩
            case round=>
             obtain⟨i,c,C,hi,rfl,rfl,hc,X,ia⟩:=hrel;have O:Hid (DS w wr D bq Z ov C qs vl):=X;have gg:=hi9 ia;have yk:C.length=j+2:=ia.1.trans (cn.out.trans dr.out);clear X ia kq;have si:(c:Int)≤1:=by omega
             have ss:(i:Int)≤300002:=by omega
             by_cases Y:i<n
             ·as_aux_lemma=>
               have am:decide (i<n)=true:=by simp;omega
               have ly:=DS.cv (vl:=vl) O.out (i:=i) (by rw[bi.out];have:=E.out;omega);have F:i+A<C.length:=by have h1:=al.out;omega
               have bn:=Own.cell (DS.u O.out:Own wr D C) (i:=i+A) F;have bz:=Own.frozen (DS.u O.out:Own wr D C) (i:=i+A) F;have hy:=dW ho.out i;have hx:=dW (DS.u O.out:Own wr D C).1 (i+A);obtain⟨S,c',q1,q2,q3,q4,q5⟩:=pf c _ _ hc hx hy;have hk:Hid _:=BK.step gg.out (by have:=E.out;omega) (by rw[cn.out];exact ci.out) q5;have sb:Hid (c'≤1):=q3;have sc:Hid (S<2^32):=q4;generalize vl.getD i 0=y at *;generalize C.getD (i+A) 0=x at *;have tk:(y:Int)≤4294967295:=by omega
               have ii:(x:Int)≤4294967295:=by omega
               have nc:i+A<j+2:=by omega
               have cz:i+1≤n:=Y;have hj:Hid (i+A<C.length):=F;have eb:D<wr.heap.size:=(DS.u O.out:Own wr D C).2.1;have xb:Z<wr.heap.size:=by omega
               clear q3 q4 q5 hx hy hc Y F;go_wp2_with fail;refine ee dV dV ?_;intro W hW;have yy:=fT (w:=W) ⟨D,i+A,none⟩ (.int .u32 (x:Int));have yz:=fT (w:=W) ⟨Z,ov+i,none⟩ (.int .u32 (y:Int));clear hW
               repeat (go_big_quiet_step (fail))
               refine wpQuiet_nil ?_;clear yy yz;intro tl an;have ap:Hid (DS w tl D bq Z ov C qs vl):=DS.grow O.out an;have vm:=an.cell eb bn;have vq:=an.frozen eb bz;clear bn bz ly an;go_wp2_with fail
               go_roundw
               case rel=>exact⟨i+1,c',C.set (i+A) S,cz,by go_num,rfl,sb.out,DS.setU ap.out (i+A) S hj.out sc.out,hk.out⟩
               case measure=>simp only[intOf];omega
             ·as_aux_lemma=>
               have am:decide (i<n)=false:=by simp;omega
               have cd:i=n0+2:=by have:=E.out;omega
               rw[cd] at gg;have N:A+n<C.length:=by have h1:=al.out;omega
               have bn:=Own.cell (DS.u O.out:Own wr D C) (i:=A+n) N;have bz:=Own.frozen (DS.u O.out:Own wr D C) (i:=A+n) N;have hx:=dW (DS.u O.out:Own wr D C).1 (A+n);obtain⟨S,kk,q1,q2,q3⟩:=nh c (C.getD (A+n) 0);have I:=BK.fin gg.out bi.out lk.out (by rw[cn.out];exact ci.out) (r:=S) (k:=kk) (by rw[← E.out];exact q3);rw[← E.out] at I;have ap:Hid (DS w (wr.setCell ⟨D,A+n,none⟩ (.int .u32 (S:Int))) D bq Z ov (C.set (A+n) S) qs vl):=DS.setU O.out (A+n) S N q2;have ii:(C.getD (A+n) 0:Int)≤4294967295:=by omega
               have ea:b*2^e<2^(32*(n0+2)):=sd.out;have hw:=DInv.back U.out dT (I.1.trans cn.out) dq.out li.out ea (DS.u ao.out).1 cr.out fv.out (DS.u ap.out).1 I.2.1 I.2.2;rw[rz.out] at hw;have hf:=hi9 hw.1;generalize C.getD (A+n) 0=x at *;have sj:=Own.cell (DS.q ap.out) (i:=A) ce;have sp:=Own.frozen (DS.q ap.out) (i:=A) ce;have ye:IntKind.u32.wrap (c:Int)=c:=by rw[IntKind.wrap_u32];omega
               clear I hw ea q2 q3 hx hc Y cd;go_wp2_with fail
               go_roundw
               case rel=>exact⟨A,C.set (A+n) S,qs.set A gm,by omega,by go_num,DS.setQ ap.out A gm ce ks.out,hf.out⟩
               case measure=>simp [intOf]
     ·rw[show decide (4294967295<r+top)=false from by simp;omega] at jx;have zc:r+top<4294967296:=by omega
      have yg:g'≤4294967297:=by omega
      clear hr hg ib ep;go_wp2_with fail
      go_roundw
      case rel=>exact⟨g',r+top,rfl,by go_num,yg,zc,⟨lg.out,dq.out⟩,J.out⟩
      case measure=>have:=oy.out;simp only[intOf];omega
