/- What is proved here: contracts of the reference's big numbers: div, word by word from above, over this seat's translation. -/
import Derived.Test.YtohcneeihdkfgaaGreatDoorQ1
import Derived.Test.YtohcneeihdkfgaaGreatDoorQ10
import Derived.Test.YtohcneeihdkfgaaGreatDoorQ3
import Derived.Test.YtohcneeihdkfgaaGreatDoorQ8
import Derived.Test.YtohcneeihdkfgaaGreatDoorQ16
namespace Go.Proofs.YtohcneeihdkfgaaGreatDoor
open Go.ChangeShapes Go.WideShapes Go.ChangeAt Go.RowKit
open BN
/-- A call hands back the canonical slices of two numbers. -/
def kl (w:World) (x y:Nat) (e:Ending) (A:World):Prop:=∃ v u,e= .returned (.tuple #[v,u])∧G w A∧Num A v x∧Num A u y
/-- A slice of n words whose number has its highest bit. -/
theorem q4l {w:World} {v:Value} {V n0:Nat} (h:Num w v V) (h1:2^(32*(n0+1)+31)≤V) (h2:V<2^(32*(n0+1+1))):
  ∃ (b o c:Nat) (l:List Nat),v= .slice (some ⟨b,o,none⟩) (n0+2:Nat) c∧n0+2≤c∧b<w.heap.size∧okw l∧l.length=n0+2∧val l=V∧Row w b o l∧2^31≤l.getD (n0+1) 0:=by
 obtain⟨l,I,A,rfl⟩:=h;have h3:=fg A h2;have D:=fO A.1;have E:2^(32*(n0+1))<2^(32*l.length):=aD (bt (ao eX eX) h1) D;have h6:=(aV (by omega:1<2)).1 E;have B:l.length=n0+2:=by omega
 rcases Sl.cases I with ⟨rfl,-⟩|⟨-,b,o,c,rfl,F,hb,J⟩
 ·simp at B
 ·refine⟨b,o,c,l,by rw[B],by omega,hb,A.1,B,rfl,J,?_⟩;have C:=fT (l:=l) (k:=n0+1) eX;rw[aR eX] at C;simp only[val,bG,aP] at C;have K:=fY A.1 (n0+1) eX;rw[ah] at h1;rcases bI (l.getD (n0+1) 0) (2^31) with h|h
  ·exfalso;have:2^(32*(n0+1))*(l.getD (n0+1) 0+1)≤2^(32*(n0+1))*2^31:=aB _ h;rw[aE,bV] at this;omega
  ·exact h
theorem q68 {w:World} {v:Value} {V:Nat} (h:Num w v V) (C:V≠0) (k:Nat) (D:V<2^(32*k)):
  ∃ (b o c:Nat) (l:List Nat),v= .slice (some ⟨b,o,none⟩) l.length c∧l.length≤c∧b<w.heap.size∧okw l∧l.length≤k∧val l=V∧Row w b o l:=by
 obtain⟨l,E,B,rfl⟩:=h;rcases Sl.cases E with ⟨rfl,-⟩|⟨-,b,o,c,rfl,A,hb,F⟩
 ·exact absurd rfl C
 ·exact⟨b,o,c,l,rfl,A,hb,B.1,fg B D,rfl,F⟩
theorem kR {w:World} {b o:Nat} {l:List Nat} (h:Row w b o l):∀ j v,(l.map fun d=>Value.int .u32 (d:Nat))[j]? =some v→w.cell? ((⟨b,o,none⟩:Addr).add j)=some v:=by
 intro j u B;rw[en] at B;obtain⟨d,A,rfl⟩:=cQ.1 B;have:=h j (bM.1 A).1;rw[ak,A] at this;rw[addr_add];exact this
theorem kV (l:List Nat):∀ u∈(l.map fun d=>Value.int .u32 (d:Nat)),u.oneCell'=true:=by
 intro u hu;obtain⟨d,-,rfl⟩:=List.mem_map.1 hu;rfl
theorem Row.setCells {b o c:Nat} {l:List Nat} (hb:b≠c):∀ (cs:List Value) (w:World) (i:Nat),Row w b o l→Row (w.setCells c i cs) b o l
 |[],_,_,h=>h
 |v::cs,_,i,h=>Row.setCells hb cs _ _ (h.set (i:=i) (u:=v) hb)
set_option maxRecDepth 10000 in
set_option maxHeartbeats 8000000 in
theorem q1i (w:World) (va vb:Value) (a b K:Nat) (hK:K≤300000) (ha:Num w va a) (hb:Num w vb b) (kq:a<2^(32*K)) (uy:b≤a) (uz:2^64≤a) (ux:2^32≤b):
  Calls Tryz.prog 222 #[va,vb] w (kl w (a/b) (a%b)):=by
 have oa:=ha;have kp:=hb;obtain⟨l,hl,dl,ph⟩:=ha;obtain⟨m,hm,kw,tc⟩:=hb;have yl:=fg dl (ph▸kq);have sq:2<l.length:=by
  rcases bI 2 l.length with h|h
  ·exact h
  ·have h1:=fO dl.1;have h2:2^(32*l.length)≤2^64:=ao eX eX;omega
 have ym:1<m.length:=by
  rcases bI 1 m.length with h|h
  ·exact h
  ·have h1:=fO kw.1;have h2:2^(32*m.length)≤2^32:=ao eX eX;omega
 have yn:m.length≤l.length:=by
  rcases bI l.length m.length with h|h
  ·have:=gq dl kw h;omega
  ·exact h
 obtain⟨n0,wh⟩:∃ n0,m.length=n0+2:=⟨m.length-2,by omega⟩;obtain⟨k,yf,yg,sp,oe,oi⟩:=lR kw (n:=n0+1) eX;obtain⟨pa,ca,rfl,Ad,wq⟩:=fF hl;obtain⟨pb,cb,rfl,Ae,tb⟩:=fF hm;have hz:=hi9 (jx w _ _ a b K eX oa kp kq eX);have gg:Hid (∀ s,G w s→_):=fun s g=>nq s _ b K eX (kp.G g) eX;have nr:Hid (∀ s,G w s→_):=fun s g=>jq s _ b (32-k) K eX eX (kp.G g) eX;have np:Hid (∀ s,G w s→_):=fun s g=>jq s _ a (32-k) K eX eX (oa.G g) kq;rw[tc] at sp oe oi;have hc:decide (cmpV a b<0)=false:=by rw[decide_eq_false_iff_not];unfold cmpV;rw[if_neg eX];split<;>omega
 generalize cmpV a b=cv at *;generalize so:l.length=j at *;generalize vu:m.length=n at *;rw[sp] at gg;have HA:=hi9 wq;have HB:=hi9 tb;have HJ:=hi9 so;have xi:=hi9 dl;have xj:=hi9 kw;have an:=hi9 ph;have xt:=hi9 tc;have E:=hi9 wh;have zz:=hi9 vu;have zq:(2:Int)≤n:=by omega
 have zy:=hi9 uy;have zx:=hi9 kq;have xf:=hi9 oa;have xh:=hi9 kp;have t1:decide ((j:Int)≤2)=false:=by simp;omega
 have t2:((n:Int)==0)=false:=by simp;omega
 have t3:((n:Int)==1)=false:=by simp;omega
 have Ah:(j:Int)≤300000:=by omega
 have Ak:(n:Int)≤j:=by omega
 have vw:(1:Int)≤k:=by omega
 have vx:(k:Int)≤32:=by omega
 obtain⟨mm,wg⟩:∃ mm,j+1=n+mm:=⟨j+1-n,by omega⟩;have Aj:(j:Int)+2-n-1=mm:=by omega
 have zn:(1:Int)≤mm:=by omega
 have zo:(mm:Int)≤300000:=by omega
 have wc:=gV (j+2) eX;rw[show ((j+2:Nat):Int)=(j:Int)+2 from by omega] at wc;have we:=gV (mm+1) eX;rw[show ((mm+1:Nat):Int)=(mm:Int)+1 from by omega] at we;have xm:=hi9 wg;obtain⟨e,he⟩:∃ e:Nat,e=32-k:=⟨_,rfl⟩;rw[← he] at np nr oe oi;have hs:32-((((32*(n0+1)+k:Nat):Int)-1)%32)-1=e:=by omega
 have Af:(e:Int)≤31:=by omega
 have Ac:((32*(n0+1)+k:Nat):Int)≤20000000:=by omega
 have zj:(1:Int)≤((32*(n0+1)+k:Nat):Int):=by omega
 generalize 32*(n0+1)+k=L at *;have uo:=hi9 oe;have ra:=hi9 oi
 have uw:a*2^e≠0:=by have:=ae e;have:0<a:=by omega
                     exact bQ.1 (aM this mB)
 have oj:a*2^e<2^(32*(j+1)):=by
  have h1:=fO dl.1;rw[ph,so] at h1;have h2:a*2^e<2^(32*j)*2^e:=av h1 (ae _);have h3:2^(32*j)*2^e≤2^(32*(j+1)):=by rw[← ah];exact ao eX eX
  omega
 have tj:=hi9 uw;have xg:Hid (0<b):=aj eX ux;have tk:=hi9 oj;have tl:Hid (a*2^e<2^(32*(n0+1+(mm+1)))):=by
  have h1:j+1=n0+1+(mm+1):=by omega
  rw[h1] at oj;exact oj
 clear uw oj;clear oe oi wq tb so dl kw ph tc wh vu uy kq oa kp hl hm sp hK uz ux yl sq ym yn yf yg wg he vw vx;clear xi xj an xt xf xh;go_enter Tryz.func222,Tryz.ntmps222;go_wp2_with fail;refine eW hz.out ?_;rintro e1 s ⟨rfl,ho⟩;go_wp2_with fail;refine eW (gg.out s ho) ?_;rintro e1 w2 ⟨rfl,lb⟩;have rc:=ab ho lb;go_wp2_with fail;refine eW (nr.out w2 rc) ?_;rintro e1 w3 ⟨v1,rfl,lc,pd⟩;obtain⟨Z,ov,Aa,vl,rfl,zf,wu,ww,ls,xa,wx,wz⟩:=q4l pd uo.out ra.out;rw[← E.out] at zf;rw[← E.out];have ob:=ab rc lc;have up:=hi9 wx;have fh:=hi9 ww;have an:=hi9 ls;have kb:=hi9 xa;have uq:=hi9 wz;clear wx ww ls xa wz pd ho lb lc rc;go_wp2_with fail;have bm:G w3 (w3.alloc (.cells (madeCells #[.int .u32 0] (j+2)) 182)):=(ad _).alloc _;have ue:=hi9 (gh w3 (j+2) 182);have hle:w.heap.size≤w3.heap.size:=ob.size;refine eW (np.out _ (ab ob bm)) ?_;rintro e1 w4 ⟨v2,rfl,ox,wk⟩;have nx:Hid (Own w4 w3.heap.size (List.replicate (j+2) 0)):=Own.grow ue.out ox;have ut:G w w4:=ab (ab ob bm) ox;have pn:Hid (Row w4 Z ov vl):=Row.G (l:=vl) up.out wu (ab bm ox);clear bm ox ue ob;generalize w3.heap.size=D at *;obtain⟨bl,ol,cl,la,rfl,yj,yi,vy,yk,wb,wa⟩:=q68 wk (tj.out) (j+1) tk.out;obtain⟨cs,oo⟩:∃ cs,cs=la.map (fun d=>Value.int .u32 (d:Nat)):=⟨_,rfl⟩;have dl:cs.length=la.length:=by rw[oo,dx]
 have lm:=kR wa;have rb:=kV la;rw[← oo] at lm rb;have nz:Hid _:=Own.cells (o:=0) nx.out vy (by simp;omega);rw[← oo] at nz;have hf:∀ i,i<cs.length→(w4.cell? ⟨D,0+i,none⟩).isSome=true:=fun i hi=>by
  rw[aK,Own.cell (l:=List.replicate (j+2) 0) nx.out (by simp;omega)];rfl
 have ks:∀ i,i<cs.length→w4.frozen? ⟨D,0+i,none⟩=false:=fun i hi=>by
  rw[aK];exact Own.frozen (l:=List.replicate (j+2) 0) nx.out (by simp;omega)
 have py:cs.length=Nat.min la.length (j+2):=by rw[dl];exact(ck eX).symm
 have qb:val ((List.replicate (j+2) 0).take 0++(la++(List.replicate (j+2) 0).drop (0+la.length)))=a*2^e:=by
  rw[List.take_zero,List.nil_append,val_append,eG,jJ,wb];simp
 have px:((List.replicate (j+2) 0).take 0++(la++(List.replicate (j+2) 0).drop (0+la.length))).length=j+2:=by simp;omega
 generalize (List.replicate (j+2) 0).take 0++(la++(List.replicate (j+2) 0).drop (0+la.length))=us at *;have zt:=run_copy_cells (P:=Tryz.prog) w4 41 41 3 182 D 0 (j+2) (j+2) ⟨bl,ol,none⟩ la.length cl cs Tryz.underlying41 eZ py lm hf ks rb;have uu:G w (w4.setCells D 0 cs):=G.setCells hle cs _ _ ut;have po:Hid (Row (w4.setCells D 0 cs) Z ov vl):=Row.setCells eX cs _ _ pn.out;generalize zi:w4.setCells D 0 cs=w5 at *;have un:=hi9 qb;have di:=hi9 px;clear wk yj yi vy yk wb wa oo dl lm rb hf ks py qb px ut pn nx up tk tj zi;go_wp2_with fail;have uf:=hi9 (gh w5 (mm+1) 182);have oy:G w5 (w5.alloc (.cells (madeCells #[.int .u32 0] (mm+1)) 182)):=(ad _).alloc _;have kr:D<w5.heap.size:=(nz.out:Own w5 D us).2.1;have J:Hid (DS w _ D w5.heap.size Z ov us (List.replicate (mm+1) 0) vl):=DS.mk (ab uu oy) hle wu kr (Own.grow nz.out oy) uf.out (Row.G (l:=vl) po.out eX oy);generalize w5.heap.size=bq at *;have za:bq<(w5.alloc (.cells (madeCells #[.int .u32 0] (mm+1)) 182)).heap.size:=(J.out:DS w _ D bq Z ov us (List.replicate (mm+1) 0) vl).q.2.1;generalize w5.alloc (.cells (madeCells #[.int .u32 0] (mm+1)) 182)=w6 at *;have zk:D<bq:=kr;clear uf oy nz po uu kr;obtain⟨p1,li⟩:∃ p1,p1=n0+1:=⟨_,rfl⟩;have wi:(n:Int)-1=p1:=by have:=E.out;omega
 have wj:(n:Int)-2=n0:=by have:=E.out;omega
 have xn:=hi9 li;have ya:w6.cell? ⟨Z,ov+p1,none⟩=some (.int .u32 (vl.getD p1 0:Nat)):=DS.cv (vl:=vl) J.out (by rw[an.out,li];omega);have xz:w6.cell? ⟨Z,ov+n0,none⟩=some (.int .u32 (vl.getD n0 0:Nat)):=DS.cv (vl:=vl) J.out (by rw[an.out];omega);have zb:vl.getD p1 0<2^32:=ff fh.out p1;have yo:vl.getD n0 0<2^32:=ff fh.out n0;have xw:2^31≤vl.getD p1 0:=by rw[li];exact uq.out
 have ty:Hid (∀ us A,okw us→A+n0+2<us.length→val us<2^(32*(A+1))*(b*2^e)→_):=fun us A h1 h2 h3=>qC h1 fh.out an.out kb.out h2 h3;clear uq;rw[← li] at ty;have Al:p1<n:=by have:=E.out;omega
 have zp:n0<n:=by have:=E.out;omega
 clear li;generalize qa:vl.getD p1 0=top at *;generalize st:vl.getD n0 0=next at *
 clear qa st;have qa:(2147483648:Int)≤top:=by omega
 have zc:(top:Int)≤4294967295:=by omega
 have xe:(next:Int)≤4294967295:=by omega
 have zd:((top:Int)==0)=false:=by simp;omega
 clear zb yo xw;have wv:Z<w6.heap.size:=by omega
 refine fq eZ eZ ?_;intro W hW;have yp:=iP (w:=W) ⟨Z,ov+p1,none⟩ (.int .u32 (top:Int));have pf:=iP (w:=W) ⟨Z,ov+n0,none⟩ (.int .u32 (next:Int));clear hW
 repeat (go_big_quiet_step (fail))
 refine wpQuiet_nil ?_;clear yp pf;intro w7 xc;have tp:Hid (DS w w7 D bq Z ov us (List.replicate (mm+1) 0) vl):=DS.grow J.out xc;have ud:=hi9 (DInv.start (n0:=n0) (M:=mm+1) di.out un.out tl.out uo.out);clear ya xz J xc za wv;go_wp2_with fail
 go_loopw [18] (fun vj wr=>∃ (t:Nat) (us qs:List Nat),t≤mm+1∧vj= .int .i64 ((t:Int)-1)∧DS w wr D bq Z ov us qs vl∧DInv us qs t (j+2) (mm+1) (b*2^e) (a*2^e)) (fun vj _=>(intOf vj+1).toNat)
 case atStart=>exact⟨mm+1,us,_,aI _,by congr 1;omega,tp.out,ud.out⟩
 case round=>
  obtain⟨t,us,qs,ht,rfl,X,pv⟩:=hrel;have J:=hi9 X;have U:=hi9 pv;clear X pv tp ud di un;cases t with
  |zero=>
   as_aux_lemma=>
    have vm:=DInv.fin U.out (ae e) xg.out;obtain⟨pf,wo⟩:=vm;have xq:Hid (∀ s,G wr s→Calls Tryz.prog 236 #[.slice (some ⟨bq,0,none⟩) (mm+1) (mm+1)] s (fo s (a/b))):=fun s g=>by
     rw[← pf];exact gi (Own.grow (DS.q J.out) g) U.out.2.1 eX
    have xr:Hid (∀ s,G wr s→Calls Tryz.prog 236 #[.slice (some ⟨D,0,none⟩) (j+2) (j+2)] s (fo s (val us))):=fun s g=>gi (Own.grow (DS.u J.out) g) U.out.1 eX;have xp:Hid (∀ s v,Num s v (val us)→Calls Tryz.prog 220 #[v,.int .u64 (e:Int)] s (fo s (a%b))):=fun s v hn=>by
     rw[← wo];exact iN s v (val us) e (j+2) eX eX hn (by have:=fO (DS.u J.out:Own wr D us).1;rwa[U.out.1] at this)
    have pc:=J.out.g;have xl:=hi9 pc;clear pf wo pc np nr gg hz HA HB;go_wp2_with fail;refine eW (xq.out wr (ad _)) ?_;rintro e1 s ⟨v1,rfl,ho,wi⟩;go_wp2_with fail;refine eW (xr.out s ho) ?_;rintro e1 w2 ⟨v2,rfl,lb,wj⟩;go_wp2_with fail;refine eW (xp.out w2 v2 wj) ?_;rintro e1 w3 ⟨v3,rfl,lc,pd⟩;go_wp2_with fail
    go_ret2
    exact⟨_,_,rfl,ab xl.out (ab ho (ab lb lc)),wi.G (ab lb lc),pd⟩
  |succ A=>
   have ze:us.length=j+2:=U.out.1;have yw:qs.length=mm+1:=U.out.2.1;have ye:A+n0+2<j+2:=by have:=xm.out;have:=E.out;omega
   have hJ:(A:Int)+n-1=((A+p1:Nat):Int):=by omega
   have Ab:(A:Int)+n-2=((A+n0:Nat):Int):=by omega
   have zl:(A:Int)≤300000:=by omega
   have vv:A+n<j+2:=by have:=E.out;omega
   have Ai:A+p1<j+2:=by omega
   have zm:A+n0<j+2:=by omega
   have eb:=(DS.u J.out:Own wr D us).1;have xx:=Own.cell (DS.u J.out:Own wr D us) (i:=A+n) eX;have xy:=Own.cell (DS.u J.out:Own wr D us) (i:=A+p1) eX;have ds:=Own.cell (DS.u J.out:Own wr D us) (i:=A+n0) eX;have xd:=ff eb (A+n);have tf:=ff eb (A+p1);have tg:=ff eb (A+n0);have hF:=ty.out us A eb eX U.out.2.2.1;rw[show A+n0+2=A+n from by have:=E.out;omega,show A+n0+1=A+p1 from by have:=xn.out;omega] at hF;obtain⟨cd,ci,cr,vh,rv,sa,vk⟩:=hF;generalize us.getD (A+n) 0=u0 at *;generalize us.getD (A+p1) 0=u1 at *;generalize ws:us.getD (A+n0) 0=u2 at *;have xs:=hi9 ws;clear ws;obtain⟨h,g0,r0,zg,hh,zh,xb,vo,pt,yy,pr⟩:=q4B u0 u1 top xd tf eX cd;have uv:val us<(g0+1)*(2^(32*A)*(b*2^e)):=by
    rw[vo];refine q5S (u2:=u2) (P:=2^(32*(A+n0))) (by rw[hh];exact rv) tg (bt (au _ eX) sa) eX
   have uk:Hid (val us<(g0+1)*(2^(32*A)*(b*2^e))):=uv;have tr:=hi9 cd;have ts:=hi9 ci;have tu:=hi9 cr;have tv:=hi9 vh;have tw:=hi9 rv;have qd:=hi9 sa;have tx:=hi9 vk;have HH:=hi9 hh;have ub:=hi9 pt;have zu:(u0:Int)≤4294967295:=by omega
   have zv:(u1:Int)≤4294967295:=by omega
   have zw:(u2:Int)≤4294967295:=by omega
   have wl:(r0:Int)<top:=by omega
   have xu:Hid (u1<2^32):=tf;have xv:Hid (u2<2^32):=tg;have ua:Hid (g0≤4294967297):=pr;have af:Hid (A+n<j+2):=vv;have di:=hi9 ze;have uj:=hi9 yw;have ve:D<wr.heap.size:=(DS.u J.out:Own wr D us).2.1;clear uv cd ci cr vh rv sa vk hh pt vo xd tf tg yy pr eb ye;clear np nr gg hz HA HB;go_wp2_with fail;refine fq eZ eZ ?_;intro W hW;have yq:=iP (w:=W) ⟨D,A+n,none⟩ (.int .u32 (u0:Int));have yr:=iP (w:=W) ⟨D,A+p1,none⟩ (.int .u32 (u1:Int));clear hW
   repeat (go_big_quiet_step (fail))
   refine wpQuiet_nil ?_;clear yq yr;intro w8 td;have qc:Hid (DS w w8 D bq Z ov us qs vl):=DS.grow J.out td;have pq:=td.cell (p:=⟨D,A+n0,none⟩) ve ds;clear xx xy ds td J;go_wp2_with fail;refine fq eZ eZ ?_;intro W hW;clear hW
   repeat (go_big_quiet_step (fail))
   refine wpQuiet_nil ?_;intro w9 te;have tq:Hid (DS w w9 D bq Z ov us qs vl):=DS.grow qc.out te;have pp:D<w8.heap.size:=(DS.u qc.out:Own w8 D us).2.1;have ds:=te.cell (p:=⟨D,A+n0,none⟩) pp pq;have wm:(r0:Int)≤4294967295:=by omega
   clear pq te qc pp ds ve zg zh;have pu:GS (val us) (2^(32*A)*(b*2^e)) h top g0 r0:=⟨ub.out,uk.out⟩;have pm:=hi9 pu;have wn:r0<4294967296:=by omega
   clear pu;have ur:Hid (4294967296*2^(32*(A+n0))≤2^(32*A)*(b*2^e)):=bt (au _ eX) qd.out;have pi:Hid (∀ g r,g*top+r=h→g<2^32→g*next≤r*2^32+u2→g*(2^(32*A)*(b*2^e))<val us+2^(32*A)*(b*2^e)):=fun g r k1 k2 k3=>q1n (h:=h) (by rw[HH.out];exact tv.out) tx.out ur.out k1 k2 k3;have tm:Hid (∀ g r,g*top+r=h→2^32≤r→g<2^32∧g*(2^(32*A)*(b*2^e))<val us+2^(32*A)*(b*2^e)):=fun g r k1 k2=>by
    obtain⟨k3,k4⟩:=q1m (u1:=u1) (u2:=u2) (next:=next) (by rw[HH.out];exact Nat.add_le_add_right (au _ tr.out) _) xu.out k1 k2 eX;exact⟨k3,pi.out g r k1 k3 k4⟩
   have uc:Hid (∀ g,4294967295<g→val us<g*(2^(32*A)*(b*2^e))):=fun g k1=>qN tu.out eX;have ul:Hid (∀ g r,g*top+r=h→r*2^32+u2<g*next→val us<g*(2^(32*A)*(b*2^e))):=fun g r k1 k2=>sB (P:=2^(32*(A+n0))) (h:=h) (by rw[HH.out];exact tw.out) qd.out k1 k2;have bw:Hid (A+n0+2<us.length):=by
    have h0:us.length=j+2:=di.out;have h1:A+n<j+2:=af.out;have h2:n=n0+2:=E.out;show A+n0+2<us.length;omega
   have zr:¬ D=bq:=by omega
   have zs:¬ bq=D:=by omega
   clear ur tr tu tv tw qd tx HH ub uk;go_wp2_with fail;simp only[xb];clear xb
   go_loopw [20,21] (fun vg vr wr=>∃ g r:Nat,vg= .int .u64 g∧vr= .int .u64 r∧g≤4294967297∧r<4294967296∧GS (val us) (2^(32*A)*(b*2^e)) h top g r∧DS w wr D bq Z ov us qs vl) (fun vg _ _=>(intOf vg).toNat)
   case atStart=>exact⟨g0,r0,rfl,rfl,ua.out,by omega,pm.out,tq.out⟩
   case round=>
    obtain⟨g,r,rfl,rfl,Ag,tb,vs,X⟩:=hrel;have ib:=hi9 vs;have J:=hi9 X;clear vs X tq pm wn wl wm;have ds:wr.cell? ⟨D,A+n0,none⟩=some (.int .u32 (us.getD (A+n0) 0:Nat)):=Own.cell (DS.u J.out:Own wr D us) (by have:=di.out;omega);rw[xs.out] at ds;have vp:(g:Int)≤4294967297:=by omega
    have Am:(r:Int)≤4294967295:=by omega
    have hj:decide ((4294967295:Int)<g)=decide (4294967295<g):=by congr 1;exact propext eX
    have hk:decide ((4294967295:Int)<(r:Int)+top)=decide (4294967295<r+top):=by congr 1;exact propext eX
    by_cases hg:4294967295<g
    case' neg=>
     rw[show decide (4294967295<g)=false from by simp;omega] at hj;have ps:g*next≤4294967295*4294967295:=bF eX eX
     obtain⟨p,hp,sy,pe⟩:∃ p:Nat,(g:Int)*next=p∧(p:Int)≤18446744065119617025∧p=g*next:=⟨g*next,by push_cast;rfl,by omega,rfl⟩
     obtain⟨q,hq,ta⟩:∃ q:Nat,bits .or .u64 ((r:Int)*4294967296) (u2:Int)=q∧q=r*2^32+u2:=⟨_,q2J r u2 eX xv.out,rfl⟩;have uh:=hi9 pe;have ui:=hi9 ta;by_cases sz:q<p
     case neg=>
      have pz:decide (q<p)=false:=by simp;omega
      have jp:Hid (g*(2^(32*A)*(b*2^e))<val us+2^(32*A)*(b*2^e)):=pi.out g r ib.out.1 eX (by rw[← uh.out,← ui.out];omega);have cz:Hid (val us<(g+1)*(2^(32*A)*(b*2^e))):=ib.out.2;have ga:g<4294967296:=by omega
      clear ps pe ta sz hk hg vp;go_wp2_with fail;clear hj hp hq pz sy ds;obtain⟨gt,ea⟩:∃ gt:Nat,gt=g:=⟨g,rfl⟩;rw[← ea] at cz jp ga ⊢;clear ea
      as_aux_lemma=>
       have vt:(gt:Int)≤4294967295:=by omega
       go_loopw [22,23,24] (fun vc vd vi w2=>∃ (i c d:Nat) (B:List Nat),i≤n∧vi= .int .i64 i∧vc= .int .u64 c∧vd= .int .u64 d∧c<4294967296∧d≤1∧DS w w2 D bq Z ov B qs vl∧AW us B vl A n0 i gt c d) (fun _ _ vi _=>n-(intOf vi).toNat)
       case atStart=>exact⟨0,0,0,us,bU _,rfl,rfl,rfl,by omega,by omega,J.out,AW.start ts.out⟩
       case round=>
        obtain⟨i,c,d,B,hi,rfl,rfl,rfl,hc,hd,X,fr⟩:=hrel;have R:Hid (DS w wr D bq Z ov B qs vl):=X;have ep:=hi9 fr;have sq:B.length=j+2:=fr.1.trans di.out;clear X fr J;have rp:(c:Int)≤4294967295:=by omega
        have yc:(d:Int)≤1:=by omega
        have si:(i:Int)≤300002:=by omega
        by_cases Y:i<n
        ·as_aux_lemma=>
          have ag:decide (i<n)=true:=by simp;omega
          have kx:=DS.cv (vl:=vl) R.out (i:=i) (by rw[an.out];have:=E.out;omega);have F:i+A<B.length:=by have h1:=af.out;omega
          have ap:=Own.cell (DS.u R.out:Own wr D B) (i:=i+A) F;have bi:=Own.frozen (DS.u R.out:Own wr D B) (i:=i+A) F;have hy:=ff fh.out i;have hx:=ff (DS.u R.out:Own wr D B).1 (i+A);obtain⟨p,lo,t0,tt,rr,d',c',q1,q2,q3,q4,q5,q6,q7,q8,q9,mn,mp,ms,nc⟩:=q2g gt c d _ _ ga hc hd hx hy;have fb:Hid _:=AW.step ep.out (by have:=E.out;omega) bw.out nc;have ih:Hid (d'≤1):=mn;have ii:Hid (c'<2^32):=mp;have io:Hid (rr<2^32):=ms;generalize vl.getD i 0=y at *;generalize B.getD (i+A) 0=x at *;have th:(y:Int)≤4294967295:=by omega
          have gd:(x:Int)≤4294967295:=by omega
          have sy:(p:Int)≤18446744065119617025:=by omega
          have vz:(lo:Int)≤4294967295:=by omega
          have lg:i+A<j+2:=by omega
          have ce:i+1≤n:=Y;have ss:n-(i+1)<n-i:=by omega
          have fa:Hid (i+A<B.length):=F;clear q2 q4 mn mp ms nc hx hy hc hd Y F;go_wp2_with fail
          go_roundw
          case rel=>exact⟨i+1,c',d',B.set (i+A) rr,ce,by go_num,rfl,rfl,ii.out,ih.out,DS.setU R.out (i+A) rr fa.out io.out,fb.out⟩
          case measure=>simp only[intOf];omega
        ·as_aux_lemma=>
          have ag:decide (i<n)=false:=by simp;omega
          have bn:i=n0+2:=by have:=E.out;omega
          rw[bn] at ep;have N:A+n<B.length:=by have h1:=af.out;omega
          have ap:=Own.cell (DS.u R.out:Own wr D B) (i:=A+n) N;have bi:=Own.frozen (DS.u R.out:Own wr D B) (i:=A+n) N;have hx:=ff (DS.u R.out:Own wr D B).1 (A+n);obtain⟨t0,tt,rr,d',q1,q2,q3,q4,q5,q6,q7⟩:=pj c d _ hc hd hx;have I:=AW.fin ep.out an.out kb.out bw.out (r:=rr) (d':=d') (by rw[← E.out];exact q7);rw[← E.out] at I;have al:Hid (DS w (wr.setCell ⟨D,A+n,none⟩ (.int .u32 (rr:Int))) D bq Z ov (B.set (A+n) rr) qs vl):=DS.setU R.out (A+n) rr N q6;have gd:(B.getD (A+n) 0:Int)≤4294967295:=by omega
          obtain⟨cd,ci,cr⟩:=I;have bz:=hi9 cd;have cc:Hid _:=ci;have em:=hi9 cr;generalize B.getD (A+n) 0=x at *;have xo:=hi9 q7;have bs:A<qs.length:=by rw[uj.out];omega
          have pc:IntKind.u32.wrap (gt:Int)=gt:=by rw[IntKind.wrap_u32];omega
          have qx:Hid (gt<2^32):=ga;have xk:Hid (d'≤1):=q5;by_cases ky:d'=0
          ·subst ky;have rs:=Own.cell (DS.q al.out) (i:=A) bs;have sb:=Own.frozen (DS.q al.out) (i:=A) bs;have ez:=hi9 (DInv.right U.out eX bz.out cz.out em.out);clear cd ci cr q6 q7 q5 hx hc hd Y bn;go_wp2_with fail
           go_roundw
           case rel=>exact⟨A,B.set (A+n) rr,qs.set A gt,by omega,by go_num,DS.setQ al.out A gt bs qx.out,ez.out⟩
           case measure=>simp [intOf]
          ·obtain rfl:d'=1:=by omega
           have lk:0<gt:=by
            rcases cm gt with h0|h0
            ·exfalso;have h1:=em.out;rw[h0,bL,aP,bV] at h1;have h2:=mO (DS.u al.out).1 cc.out;rw[h1] at h2;exact absurd h2 (Nat.not_lt.2 (Nat.le_add_left _ _))
            ·exact h0
           obtain⟨gm,bm⟩:∃ gm,gt-1=gm:=⟨_,rfl⟩;have vq:IntKind.u64.wrap ((gt:Int)-1)=gm:=by rw[IntKind.wrap_u64];omega
           have sh:IntKind.u32.wrap (gm:Int)=gm:=by rw[IntKind.wrap_u32];omega
           have qm:=hi9 bm;have ia:Hid (gm<2^32):=by show gm<2^32;omega
           have hw:Hid (BK (B.set (A+n) rr) (B.set (A+n) rr) vl A n0 0 0):=BK.start (us:=B.set (A+n) rr) (vl:=vl) cc.out;clear cd ci cr q6 q7 q5 hx hc hd Y bn ky lk bm;go_wp2_with fail
           as_aux_lemma=>
            clear ap bi q1 q2 q3 q4;generalize lw:wr.setCell ⟨D,A+n,none⟩ (.int .u32 (rr:Int))=w3 at *;clear lw;generalize ee:B.set (A+n) rr=ni at *;have um:=hi9 ee;clear ee ag
            go_loopw [22,27] (fun vc vi w4=>∃ (i c:Nat) (C:List Nat),i≤n∧vi= .int .i64 i∧vc= .int .u64 c∧c≤1∧DS w w4 D bq Z ov C qs vl∧BK ni C vl A n0 i c) (fun _ vi _=>n-(intOf vi).toNat)
            case atStart=>exact⟨0,0,ni,bU _,rfl,rfl,by omega,al.out,hw.out⟩
            case round=>
             obtain⟨i,c,C,hi,rfl,rfl,hc,X,fs⟩:=hrel;have O:Hid (DS w wr D bq Z ov C qs vl):=X;have eu:=hi9 fs;have yh:C.length=j+2:=fs.1.trans (bz.out.trans di.out);clear X fs hw;have rp:(c:Int)≤1:=by omega
             have si:(i:Int)≤300002:=by omega
             by_cases Y:i<n
             ·as_aux_lemma=>
               have ag:decide (i<n)=true:=by simp;omega
               have kx:=DS.cv (vl:=vl) O.out (i:=i) (by rw[an.out];have:=E.out;omega);have F:i+A<C.length:=by have h1:=af.out;omega
               have ap:=Own.cell (DS.u O.out:Own wr D C) (i:=i+A) F;have bi:=Own.frozen (DS.u O.out:Own wr D C) (i:=i+A) F;have hy:=ff fh.out i;have hx:=ff (DS.u O.out:Own wr D C).1 (i+A);obtain⟨S,c',q1,q2,q3,q4,q5⟩:=q2i c _ _ hc hx hy;have fb:Hid _:=BK.step eu.out (by have:=E.out;omega) (by rw[bz.out];exact bw.out) q5;have qy:Hid (c'≤1):=q3;have qz:Hid (S<2^32):=q4;generalize vl.getD i 0=y at *;generalize C.getD (i+A) 0=x at *;have th:(y:Int)≤4294967295:=by omega
               have gd:(x:Int)≤4294967295:=by omega
               have lg:i+A<j+2:=by omega
               have ce:i+1≤n:=Y;have fa:Hid (i+A<C.length):=F;have dr:D<wr.heap.size:=(DS.u O.out:Own wr D C).2.1;have wy:Z<wr.heap.size:=by omega
               clear q3 q4 q5 hx hy hc Y F;go_wp2_with fail;refine fq eZ eZ ?_;intro W hW;have ys:=iP (w:=W) ⟨D,i+A,none⟩ (.int .u32 (x:Int));have yt:=iP (w:=W) ⟨Z,ov+i,none⟩ (.int .u32 (y:Int));clear hW
               repeat (go_big_quiet_step (fail))
               refine wpQuiet_nil ?_;clear ys yt;intro ti ai;have am:Hid (DS w ti D bq Z ov C qs vl):=DS.grow O.out ai;have vf:=ai.cell dr ap;have vn:=ai.frozen dr bi;clear ap bi kx ai;go_wp2_with fail
               go_roundw
               case rel=>exact⟨i+1,c',C.set (i+A) S,ce,by go_num,rfl,qy.out,DS.setU am.out (i+A) S fa.out qz.out,fb.out⟩
               case measure=>simp only[intOf];omega
             ·as_aux_lemma=>
               have ag:decide (i<n)=false:=by simp;omega
               have bn:i=n0+2:=by have:=E.out;omega
               rw[bn] at eu;have N:A+n<C.length:=by have h1:=af.out;omega
               have ap:=Own.cell (DS.u O.out:Own wr D C) (i:=A+n) N;have bi:=Own.frozen (DS.u O.out:Own wr D C) (i:=A+n) N;have hx:=ff (DS.u O.out:Own wr D C).1 (A+n);obtain⟨S,kk,q1,q2,q3⟩:=q0v c (C.getD (A+n) 0);have I:=BK.fin eu.out an.out kb.out (by rw[bz.out];exact bw.out) (r:=S) (k:=kk) (by rw[← E.out];exact q3);rw[← E.out] at I;have am:Hid (DS w (wr.setCell ⟨D,A+n,none⟩ (.int .u32 (S:Int))) D bq Z ov (C.set (A+n) S) qs vl):=DS.setU O.out (A+n) S N q2;have gd:(C.getD (A+n) 0:Int)≤4294967295:=by omega
               have dq:b*2^e<2^(32*(n0+2)):=ra.out;have fp:=DInv.back U.out eX (I.1.trans bz.out) cz.out jp.out dq (DS.u al.out).1 cc.out em.out (DS.u am.out).1 I.2.1 I.2.2;rw[qm.out] at fp;have ez:=hi9 fp.1;generalize C.getD (A+n) 0=x at *;have rs:=Own.cell (DS.q am.out) (i:=A) bs;have sb:=Own.frozen (DS.q am.out) (i:=A) bs;have yb:IntKind.u32.wrap (c:Int)=c:=by rw[IntKind.wrap_u32];omega
               clear I fp dq q2 q3 hx hc Y bn;go_wp2_with fail
               go_roundw
               case rel=>exact⟨A,C.set (A+n) S,qs.set A gm,by omega,by go_num,DS.setQ am.out A gm bs ia.out,ez.out⟩
               case measure=>simp [intOf]
     have pz:decide (q<p)=true:=by simp;omega
     obtain⟨g',fv⟩:∃ g',g=g'+1:=by
      rcases g with _|g'
      ·rw[bL] at pe;omega
      ·exact⟨g',rfl⟩
     have bm:IntKind.u64.wrap ((g:Int)-1)=g':=by rw[IntKind.wrap_u64];omega
     have nl:Hid _:=fv;have ec:g'*top+(r+top)=h:=by rw[← ib.out.1,fv,aL];omega
     have it:=hi9 ec;have cz:Hid (val us<(g'+1)*(2^(32*A)*(b*2^e))):=by rw[← nl.out];exact ul.out g r ib.out.1 (by rw[← uh.out,← ui.out];exact sz)
     clear ps pe ta sz
    case' pos=>
     rw[show decide (4294967295<g)=true from by simp;omega] at hj;obtain⟨g',fv⟩:∃ g',g=g'+1:=⟨g-1,by omega⟩;have bm:IntKind.u64.wrap ((g:Int)-1)=g':=by rw[IntKind.wrap_u64];omega
     have nl:Hid _:=fv;have ec:g'*top+(r+top)=h:=by rw[← ib.out.1,fv,aL];omega
     have it:=hi9 ec;have cz:Hid (val us<(g'+1)*(2^(32*A)*(b*2^e))):=by rw[← nl.out];exact uc.out g hg
    all_goals as_aux_lemma=>
     by_cases hr:4294967295<r+top
     ·rw[show decide (4294967295<r+top)=true from by simp;omega] at hk;have rn:=tm.out g' (r+top) it.out eX;have jp:Hid (g'*(2^(32*A)*(b*2^e))<val us+2^(32*A)*(b*2^e)):=rn.2;have ga:g'<4294967296:=rn.1;clear hr hg fv ec rn;go_wp2_with fail;clear hj hk bm ds vp;obtain⟨gt,ea⟩:∃ gt:Nat,gt=g':=⟨g',rfl⟩;rw[← ea] at cz jp ga ⊢;clear ea
      as_aux_lemma=>
       have vt:(gt:Int)≤4294967295:=by omega
       go_loopw [22,23,24] (fun vc vd vi w2=>∃ (i c d:Nat) (B:List Nat),i≤n∧vi= .int .i64 i∧vc= .int .u64 c∧vd= .int .u64 d∧c<4294967296∧d≤1∧DS w w2 D bq Z ov B qs vl∧AW us B vl A n0 i gt c d) (fun _ _ vi _=>n-(intOf vi).toNat)
       case atStart=>exact⟨0,0,0,us,bU _,rfl,rfl,rfl,by omega,by omega,J.out,AW.start ts.out⟩
       case round=>
        obtain⟨i,c,d,B,hi,rfl,rfl,rfl,hc,hd,X,fr⟩:=hrel;have R:Hid (DS w wr D bq Z ov B qs vl):=X;have ep:=hi9 fr;have sq:B.length=j+2:=fr.1.trans di.out;clear X fr J;have rp:(c:Int)≤4294967295:=by omega
        have yc:(d:Int)≤1:=by omega
        have si:(i:Int)≤300002:=by omega
        by_cases Y:i<n
        ·as_aux_lemma=>
          have ag:decide (i<n)=true:=by simp;omega
          have kx:=DS.cv (vl:=vl) R.out (i:=i) (by rw[an.out];have:=E.out;omega);have F:i+A<B.length:=by have h1:=af.out;omega
          have ap:=Own.cell (DS.u R.out:Own wr D B) (i:=i+A) F;have bi:=Own.frozen (DS.u R.out:Own wr D B) (i:=i+A) F;have hy:=ff fh.out i;have hx:=ff (DS.u R.out:Own wr D B).1 (i+A);obtain⟨p,lo,t0,tt,rr,d',c',q1,q2,q3,q4,q5,q6,q7,q8,q9,mn,mp,ms,nc⟩:=q2g gt c d _ _ ga hc hd hx hy;have fb:Hid _:=AW.step ep.out (by have:=E.out;omega) bw.out nc;have ih:Hid (d'≤1):=mn;have ii:Hid (c'<2^32):=mp;have io:Hid (rr<2^32):=ms;generalize vl.getD i 0=y at *;generalize B.getD (i+A) 0=x at *;have th:(y:Int)≤4294967295:=by omega
          have gd:(x:Int)≤4294967295:=by omega
          have sy:(p:Int)≤18446744065119617025:=by omega
          have vz:(lo:Int)≤4294967295:=by omega
          have lg:i+A<j+2:=by omega
          have ce:i+1≤n:=Y;have ss:n-(i+1)<n-i:=by omega
          have fa:Hid (i+A<B.length):=F;clear q2 q4 mn mp ms nc hx hy hc hd Y F;go_wp2_with fail
          go_roundw
          case rel=>exact⟨i+1,c',d',B.set (i+A) rr,ce,by go_num,rfl,rfl,ii.out,ih.out,DS.setU R.out (i+A) rr fa.out io.out,fb.out⟩
          case measure=>simp only[intOf];omega
        ·as_aux_lemma=>
          have ag:decide (i<n)=false:=by simp;omega
          have bn:i=n0+2:=by have:=E.out;omega
          rw[bn] at ep;have N:A+n<B.length:=by have h1:=af.out;omega
          have ap:=Own.cell (DS.u R.out:Own wr D B) (i:=A+n) N;have bi:=Own.frozen (DS.u R.out:Own wr D B) (i:=A+n) N;have hx:=ff (DS.u R.out:Own wr D B).1 (A+n);obtain⟨t0,tt,rr,d',q1,q2,q3,q4,q5,q6,q7⟩:=pj c d _ hc hd hx;have I:=AW.fin ep.out an.out kb.out bw.out (r:=rr) (d':=d') (by rw[← E.out];exact q7);rw[← E.out] at I;have al:Hid (DS w (wr.setCell ⟨D,A+n,none⟩ (.int .u32 (rr:Int))) D bq Z ov (B.set (A+n) rr) qs vl):=DS.setU R.out (A+n) rr N q6;have gd:(B.getD (A+n) 0:Int)≤4294967295:=by omega
          obtain⟨cd,ci,cr⟩:=I;have bz:=hi9 cd;have cc:Hid _:=ci;have em:=hi9 cr;generalize B.getD (A+n) 0=x at *;have xo:=hi9 q7;have bs:A<qs.length:=by rw[uj.out];omega
          have pc:IntKind.u32.wrap (gt:Int)=gt:=by rw[IntKind.wrap_u32];omega
          have qx:Hid (gt<2^32):=ga;have xk:Hid (d'≤1):=q5;by_cases ky:d'=0
          ·subst ky;have rs:=Own.cell (DS.q al.out) (i:=A) bs;have sb:=Own.frozen (DS.q al.out) (i:=A) bs;have ez:=hi9 (DInv.right U.out eX bz.out cz.out em.out);clear cd ci cr q6 q7 q5 hx hc hd Y bn;go_wp2_with fail
           go_roundw
           case rel=>exact⟨A,B.set (A+n) rr,qs.set A gt,by omega,by go_num,DS.setQ al.out A gt bs qx.out,ez.out⟩
           case measure=>simp [intOf]
          ·obtain rfl:d'=1:=by omega
           have lk:0<gt:=by
            rcases cm gt with h0|h0
            ·exfalso;have h1:=em.out;rw[h0,bL,aP,bV] at h1;have h2:=mO (DS.u al.out).1 cc.out;rw[h1] at h2;exact absurd h2 (Nat.not_lt.2 (Nat.le_add_left _ _))
            ·exact h0
           obtain⟨gm,bm⟩:∃ gm,gt-1=gm:=⟨_,rfl⟩;have vq:IntKind.u64.wrap ((gt:Int)-1)=gm:=by rw[IntKind.wrap_u64];omega
           have sh:IntKind.u32.wrap (gm:Int)=gm:=by rw[IntKind.wrap_u32];omega
           have qm:=hi9 bm;have ia:Hid (gm<2^32):=by show gm<2^32;omega
           have hw:Hid (BK (B.set (A+n) rr) (B.set (A+n) rr) vl A n0 0 0):=BK.start (us:=B.set (A+n) rr) (vl:=vl) cc.out;clear cd ci cr q6 q7 q5 hx hc hd Y bn ky lk bm;go_wp2_with fail
           as_aux_lemma=>
            clear ap bi q1 q2 q3 q4;generalize lw:wr.setCell ⟨D,A+n,none⟩ (.int .u32 (rr:Int))=w3 at *;clear lw;generalize ee:B.set (A+n) rr=ni at *;have um:=hi9 ee;clear ee ag
            go_loopw [22,27] (fun vc vi w4=>∃ (i c:Nat) (C:List Nat),i≤n∧vi= .int .i64 i∧vc= .int .u64 c∧c≤1∧DS w w4 D bq Z ov C qs vl∧BK ni C vl A n0 i c) (fun _ vi _=>n-(intOf vi).toNat)
            case atStart=>exact⟨0,0,ni,bU _,rfl,rfl,by omega,al.out,hw.out⟩
            case round=>
             obtain⟨i,c,C,hi,rfl,rfl,hc,X,fs⟩:=hrel;have O:Hid (DS w wr D bq Z ov C qs vl):=X;have eu:=hi9 fs;have yh:C.length=j+2:=fs.1.trans (bz.out.trans di.out);clear X fs hw;have rp:(c:Int)≤1:=by omega
             have si:(i:Int)≤300002:=by omega
             by_cases Y:i<n
             ·as_aux_lemma=>
               have ag:decide (i<n)=true:=by simp;omega
               have kx:=DS.cv (vl:=vl) O.out (i:=i) (by rw[an.out];have:=E.out;omega);have F:i+A<C.length:=by have h1:=af.out;omega
               have ap:=Own.cell (DS.u O.out:Own wr D C) (i:=i+A) F;have bi:=Own.frozen (DS.u O.out:Own wr D C) (i:=i+A) F;have hy:=ff fh.out i;have hx:=ff (DS.u O.out:Own wr D C).1 (i+A);obtain⟨S,c',q1,q2,q3,q4,q5⟩:=q2i c _ _ hc hx hy;have fb:Hid _:=BK.step eu.out (by have:=E.out;omega) (by rw[bz.out];exact bw.out) q5;have qy:Hid (c'≤1):=q3;have qz:Hid (S<2^32):=q4;generalize vl.getD i 0=y at *;generalize C.getD (i+A) 0=x at *;have th:(y:Int)≤4294967295:=by omega
               have gd:(x:Int)≤4294967295:=by omega
               have lg:i+A<j+2:=by omega
               have ce:i+1≤n:=Y;have fa:Hid (i+A<C.length):=F;have dr:D<wr.heap.size:=(DS.u O.out:Own wr D C).2.1;have wy:Z<wr.heap.size:=by omega
               clear q3 q4 q5 hx hy hc Y F;go_wp2_with fail;refine fq eZ eZ ?_;intro W hW;have yu:=iP (w:=W) ⟨D,i+A,none⟩ (.int .u32 (x:Int));have yv:=iP (w:=W) ⟨Z,ov+i,none⟩ (.int .u32 (y:Int));clear hW
               repeat (go_big_quiet_step (fail))
               refine wpQuiet_nil ?_;clear yu yv;intro ti ai;have am:Hid (DS w ti D bq Z ov C qs vl):=DS.grow O.out ai;have vf:=ai.cell dr ap;have vn:=ai.frozen dr bi;clear ap bi kx ai;go_wp2_with fail
               go_roundw
               case rel=>exact⟨i+1,c',C.set (i+A) S,ce,by go_num,rfl,qy.out,DS.setU am.out (i+A) S fa.out qz.out,fb.out⟩
               case measure=>simp only[intOf];omega
             ·as_aux_lemma=>
               have ag:decide (i<n)=false:=by simp;omega
               have bn:i=n0+2:=by have:=E.out;omega
               rw[bn] at eu;have N:A+n<C.length:=by have h1:=af.out;omega
               have ap:=Own.cell (DS.u O.out:Own wr D C) (i:=A+n) N;have bi:=Own.frozen (DS.u O.out:Own wr D C) (i:=A+n) N;have hx:=ff (DS.u O.out:Own wr D C).1 (A+n);obtain⟨S,kk,q1,q2,q3⟩:=q0v c (C.getD (A+n) 0);have I:=BK.fin eu.out an.out kb.out (by rw[bz.out];exact bw.out) (r:=S) (k:=kk) (by rw[← E.out];exact q3);rw[← E.out] at I;have am:Hid (DS w (wr.setCell ⟨D,A+n,none⟩ (.int .u32 (S:Int))) D bq Z ov (C.set (A+n) S) qs vl):=DS.setU O.out (A+n) S N q2;have gd:(C.getD (A+n) 0:Int)≤4294967295:=by omega
               have dq:b*2^e<2^(32*(n0+2)):=ra.out;have fp:=DInv.back U.out eX (I.1.trans bz.out) cz.out jp.out dq (DS.u al.out).1 cc.out em.out (DS.u am.out).1 I.2.1 I.2.2;rw[qm.out] at fp;have ez:=hi9 fp.1;generalize C.getD (A+n) 0=x at *;have rs:=Own.cell (DS.q am.out) (i:=A) bs;have sb:=Own.frozen (DS.q am.out) (i:=A) bs;have yb:IntKind.u32.wrap (c:Int)=c:=by rw[IntKind.wrap_u32];omega
               clear I fp dq q2 q3 hx hc Y bn;go_wp2_with fail
               go_roundw
               case rel=>exact⟨A,C.set (A+n) S,qs.set A gm,by omega,by go_num,DS.setQ am.out A gm bs ia.out,ez.out⟩
               case measure=>simp [intOf]
     ·rw[show decide (4294967295<r+top)=false from by simp;omega] at hk;have yz:r+top<4294967296:=by omega
      have yd:g'≤4294967297:=by omega
      clear hr hg fv ec;go_wp2_with fail
      go_roundw
      case rel=>exact⟨g',r+top,rfl,by go_num,yd,yz,⟨it.out,cz.out⟩,J.out⟩
      case measure=>have:=nl.out;simp only[intOf];omega
