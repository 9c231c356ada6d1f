/- What is proved here: contracts of the reference's big numbers: near, over this seat's translation. -/
import Derived.Test.YtohcneeihdkfgaaGreatDoorQ1
import Derived.Test.YtohcneeihdkfgaaGreatDoorQ3
import Derived.Test.YtohcneeihdkfgaaGreatDoorQ8
import Derived.Test.YtohcneeihdkfgaaGreatDoorQ30
import Derived.OwnWalk
namespace Go.Proofs.YtohcneeihdkfgaaGreatDoor
open Go.ChangeShapes Go.WideShapes Go.ChangeAt Go.RowKit
open BN
def q43 (w:World) (A B m:Nat) (D:Int) (e:Ending) (C:World):Prop:=
 ∃ (q v:Nat) (P p:Int) (x:Bool),e= .returned (.tuple #[.pointer (some ⟨q,0,none⟩),.int .i64 P,.bool x])∧G w C∧NI w C q (v:Int)∧pg A B m p v P x∧jF A B m D p
set_option maxRecDepth 10000 in
set_option maxHeartbeats 4000000 in
theorem q66 (w:World) (ba oa bb ob A B m K:Nat) (low:Int) (hK:K≤10000) (ub:100≤K) (ls:A≠0) (lw:B≠0) (ca:A<2^(32*K)) (cb:B<2^(32*K)) (ud:1≤m) (hm:m≤64) (ty: -2000≤low) (ti:low≤2000)
  (np:ba<w.heap.size) (nr:bb<w.heap.size) (ha:IntIs w ba oa (A:Int)) (hb:IntIs w bb ob (B:Int)):
  Calls Tryz.prog 289 #[.pointer (some ⟨ba,oa,none⟩),.pointer (some ⟨bb,ob,none⟩),.int .i64 (m:Int),.int .i64 low] w (q43 w A B m (iq A B m low)):=by
 have sb:=blen_le_iff.2 ca;have sh:=blen_le_iff.2 cb;have kw:Hid (∀ d,G w d→_):=fun d g=>kJ d ba oa A K eX ca (ha.G np g);have kx:Hid (∀ d,G w d→_):=fun d g=>kJ d bb ob B K eX cb (hb.G nr g);rw[aA] at kw kx;have pt:Hid (∀ w0 d p,G w d→NI w0 d p 0→_):=fun w0 d p g h=>my d p 0 ba oa 0 A K eX ca h.2.1 (de g np) h.2.2 (ha.G np g);have pu:Hid (∀ w0 d p,G w d→NI w0 d p 0→_):=fun w0 d p g h=>my d p 0 bb ob 0 B K eX cb h.2.1 (de g nr) h.2.2 (hb.G nr g);have ua:(m:Int)≤64:=by omega
 have tv:(blen A:Int)≤320000:=by omega
 have tw:(blen B:Int)≤320000:=by omega
 have tb:Hid (A≠0):=ls;have ox:Hid (B≠0):=lw;have ov:=hi9 ca;have oy:=hi9 cb;by_cases ci:(blen A:Int)-blen B-m<low
 case' pos=>
  obtain⟨F,c⟩:∃ F,F=iq A B m low:=⟨_,rfl⟩;have pm:=hi9 c;have I:=c;unfold iq at I;rw[if_pos ci] at I;rw[← c];have tl: -(32*(K:Int))≤F:=by omega
  have tm:F+1≤32*(K:Int):=by omega
  have hd:decide ((blen A:Int)-blen B-m<low)=true:=by simpa using ci
  generalize blen A=LA at *;generalize blen B=LB at *;subst I;clear ls lw ca cb c ha hb ci sb sh
 case' neg=>
  obtain⟨F,c⟩:∃ F,F=iq A B m low:=⟨_,rfl⟩;have pm:=hi9 c;have I:=c;unfold iq at I;rw[if_neg ci] at I;rw[← c];have tl: -(32*(K:Int))≤F:=by omega
  have tm:F+1≤32*(K:Int):=by omega
  have hd:decide ((blen A:Int)-blen B-m<low)=false:=by simpa using ci
  rw[← I] at hd;generalize blen A=LA at *;generalize blen B=LB at *;have ue:(LA:Int)-LB-m=F:=I.symm;clear ls lw ca cb c ha hb ci sb sh I
 all_goals
  go_enter Tryz.func289,Tryz.ntmps289;go_wp2_with fail;refine eW (kw.out w (ad _)) ?_;rintro e d ⟨rfl,nx⟩;go_wp2_with fail;refine eW (kx.out d nx) ?_;rintro e w2 ⟨rfl,rv⟩;have qd:=ab nx rv;go_wp2_with fail;clear nx rv kw kx hd
  go_loopw [11] (fun vp wr=>∃ p:Int,vp= .int .i64 p∧jF A B m F p∧F≤p∧p≤F+1∧G w wr) (fun vp _=>(F+2-intOf vp).toNat)
  case atStart=>exact⟨F,rfl,Or.inl rfl,Int.le_refl _,by omega,qd⟩
  case round=>
   obtain⟨p,rfl,rn,so,sp,hG⟩:=hrel;have cz:Hid (jF A B m F p):=rn;have kk: -320000≤p:=by omega
   have kp:p≤320000:=by omega
   clear rn qd
   as_aux_lemma=>
    go_wp2_with fail;have bq:=ei hG 43;have X:=ab hG ((ad wr).alloc (.cells #[.bool false,.slice none 0 0] 43));refine eW (pt.out w _ _ X bq) ?_;intro e w3 L;obtain⟨rfl,mm,ms,-,-⟩:=bj X bq L;clear L bq X;generalize wr.heap.size=pn at *;clear hG;go_wp2_with fail;have bq:=ei mm 43;have qy:=ms.G ((ad w3).alloc (.cells #[.bool false,.slice none 0 0] 43));have X:=ab mm ((ad w3).alloc (.cells #[.bool false,.slice none 0 0] 43));have bs:w3.heap.size≠pn:=by have:=ms.2.1;omega
    refine eW (pu.out w _ _ X bq) ?_;intro e w4 L;obtain⟨rfl,hn,pz,-,an⟩:=bj X bq L;have o:Hid (NI w w4 pn A):=an pn A bs.symm qy;have j:Hid (NI w w4 w3.heap.size B):=pz;clear L bq X an qy ms mm pz;generalize w3.heap.size=i at *;have M:Hid (upP A p<2^(32*(2*K))∧loP B p<2^(32*(2*K))∧loP B p≠0):=⟨q6G ov.out eX,q5X oy.out eX,bQ.1 (kO ox.out)⟩;by_cases cl:0≤p
    case' pos=>
     obtain⟨k,rfl⟩:∃ k:Nat,p=k:=Int.eq_ofNat_of_zero_le cl;have HL:Hid (Calls Tryz.prog 187 #[.pointer (some ⟨i,0,none⟩),.pointer (some ⟨i,0,none⟩),.int .u64 (k:Int)] w4 (SetTo w4 i 0 ((B:Int)*2^k))):=
      iS w4 i 0 i 0 k B B K eX eX oy.out j.out.2.1 j.out.2.1 j.out.2.2 j.out.2.2
     have ea:(B:Int)*2^k=((loP B k:Nat):Int):=by unfold loP;push_cast;rfl
     have ag:(A:Int)=((upP A k:Nat):Int):=by unfold upP;rw[show (-(k:Int)).toNat=0 from by omega];simp
     rw[ea] at HL;have dq:=hi9 ag;clear ea ag;go_wp2_with fail;refine eW HL.out ?_;intro e w5 L;obtain⟨rfl,em,cc,-,an⟩:=bj hn j.out L;have cd:=an pn A bs.symm o.out;rw[dq.out] at cd;have bn:Hid (NI w w5 pn (upP A (k:Int):Nat)):=cd;have bl:Hid (NI w w5 i (loP B (k:Int):Nat)):=cc;clear L an cc cd dq HL o j hn;obtain⟨p,hp⟩:∃ p:Int,p=(k:Int):=⟨_,rfl⟩;rw[← hp] at bn bl cl so sp kk kp M cz ⊢;have la:=hi9 hp;clear hp cl
    case' neg=>
     obtain⟨k,hk⟩:∃ k:Nat,p= -(k:Int):=⟨(-p).toNat,by omega⟩;have sq:decide (0≤p)=false:=by simpa using cl
     subst hk;have HL:Hid (Calls Tryz.prog 187 #[.pointer (some ⟨pn,0,none⟩),.pointer (some ⟨pn,0,none⟩),.int .u64 (k:Int)] w4 (SetTo w4 pn 0 ((A:Int)*2^k))):=
      iS w4 pn 0 pn 0 k A A K eX eX ov.out o.out.2.1 o.out.2.1 o.out.2.2 o.out.2.2
     have ea:(A:Int)*2^k=((upP A (-(k:Int)):Nat):Int):=by unfold upP;rw[show (-(-(k:Int))).toNat=k from by omega];push_cast;rfl
     have ag:(B:Int)=((loP B (-(k:Int)):Nat):Int):=by unfold loP;rw[show (-(k:Int)).toNat=0 from by omega];simp
     rw[ea] at HL;have dq:=hi9 ag;clear ea ag;go_wp2_with fail;refine eW HL.out ?_;intro e w5 L;obtain⟨rfl,em,cd,-,an⟩:=bj hn o.out L;have cc:=an i B bs j.out;rw[dq.out] at cc;have bn:Hid (NI w w5 pn (upP A (-(k:Int)):Nat)):=cd;have bl:Hid (NI w w5 i (loP B (-(k:Int)):Nat)):=cc;clear L an cc cd dq HL o j hn sq;obtain⟨p,hp⟩:∃ p:Int,p= -(k:Int):=⟨_,rfl⟩;rw[← hp] at bn bl cl so sp kk kp M cz ⊢;have la:=hi9 hp;clear hp cl
    all_goals
     as_aux_lemma=>
      obtain⟨N,hN⟩:∃ N,N=upP A p:=⟨_,rfl⟩;obtain⟨D,hD⟩:∃ D,D=loP B p:=⟨_,rfl⟩;rw[← hN] at bn M;rw[← hD] at bl M;have HQ:Hid (ij A B p=fQ N D):=by show ij A B p=fQ N D;rw[hN,hD];rfl
      have HX:Hid (decide (upP A p%loP B p=0)=decide (N%D=0)):=by rw[hN,hD];exact rfl
      clear hN hD pt pu;go_wp2_with fail;have Z:=(ad w5).alloc (.cells #[.bool false,.slice none 0 0] 43);have ho:=Z.alloc (.cells #[.bool false,.slice none 0 0] 43);have ht:=(ei (ab em (ad w5)) 43).G ((ad (w5.alloc (.cells #[.bool false,.slice none 0 0] 43))).alloc (.cells #[.bool false,.slice none 0 0] 43));have cr:=ei (ab em Z) 43;rw[show (w5.alloc (.cells #[.bool false,.slice none 0 0] 43)).heap.size=w5.heap.size+1 from by simp] at cr;have nc:=bn.out.G ho;have hl:=bl.out.G ho;have tp:=bn.out.2.1;have hd:=bl.out.2.1;have qm:=ab em ho;obtain⟨pr,ss⟩:∃ pr,pr=w5.heap.size+1:=⟨_,rfl⟩;rw[← ss] at cr ⊢;generalize tq:w5.heap.size=E at *;generalize (w5.alloc (.cells #[.bool false,.slice none 0 0] 43)).alloc (.cells #[.bool false,.slice none 0 0] 43)=w6 at *;have oj:pr≠E:=by omega
      have tj:pn≠E:=by omega
      have rs:i≠E:=by omega
      have tk:pn≠pr:=by omega
      have th:i≠pr:=by omega
      refine eW (rq w6 E 0 pn 0 i 0 pr 0 0 0 N D (2*K) eX M.out.1 M.out.2.1 (by have:=M.out.2.2;omega) ht.2.1 cr.2.1 nc.2.1 hl.2.1 ht.2.2 cr.2.2 (Or.inl oj) nc.2.2 hl.2.2) ?_;intro e w8 st;obtain⟨rfl,w7,e1,e2,sy,sz⟩:=st;obtain⟨-,qs,ra,-,nz⟩:=bj qm ht sy;have rc:=nz pr 0 oj cr;have qa:=nz i D rs hl;obtain⟨-,qx,nl,-,oe⟩:=bj qs rc sz;have ni:=oe E _ oj.symm ra;have qb:=oe i _ th qa;rw[show Int.tdiv (N:Int) D=((N/D:Nat):Int) from rfl] at ni;rw[show Int.tmod (N:Int) D=((N%D:Nat):Int) from rfl] at nl;have pp:Hid (NI w w8 E ((N/D:Nat):Int)):=ni;have lg:Hid (NI w w8 pr ((N%D:Nat):Int)):=nl;have pe:Hid (NI w w8 i (D:Int)):=qb;clear sy sz nz oe ra rc qa ni nl qb qs ht cr nc hl Z ho qm bn bl em tq ss tp hd tj tk rs;go_wp2_with fail;have lk:=hi9 (q0R w8 pr 0 _ lg.out.2.2);have lm:Hid ((((N%D:Nat):Int).sign==0)=decide (N%D=0)):=by
       show (((N%D:Nat):Int).sign==0)=decide (N%D=0);generalize N%D=z;by_cases hz:z=0
       ·subst hz;rfl
       ·have:(z:Int).sign=1:=bg eX;rw[this];simp [hz]
      obtain⟨sgn,kq⟩:∃ sgn,sgn=((N%D:Nat):Int).sign:=⟨_,rfl⟩;rw[← kq] at lk lm;clear kq;have si:N%D≤N:=Nat.mod_le _ _;have kb:N%D*2<2^(32*(2*K+1)):=by
       have h1:=M.out.1;have h2:2^(32*(2*K))*2≤2^(32*(2*K+1)):=by rw[← bH];exact ao eX eX
       omega
      have py:D<2^(32*(2*K+1)):=aj M.out.2.1 (ao eX eX);have ia:Hid (N%D*2<2^(32*(2*K+1))):=kb;have ph:Hid (N%D<2^(32*(2*K))):=aD si M.out.1;have pf:Hid (D<2^(32*(2*K+1))):=py;clear si kb py;refine eW lk.out ?_;rintro e w9 ⟨rfl,jG⟩;have mn:=ab qx jG;have lb:Hid (NI w w9 E ((N/D:Nat):Int)):=pp.out.G jG;have li:Hid (NI w w9 pr ((N%D:Nat):Int)):=lg.out.G jG;have ks:Hid (NI w w9 i (D:Int)):=pe.out.G jG;clear jG pp lg pe lk qx;go_wp2_with fail;have hr:=ei mn 43;have Z:=(ad w9).alloc (.cells #[.bool false,.slice none 0 0] 43);have eu:=li.out.G Z;have it:=lb.out.G Z;have ih:=ks.out.G Z;have X:=ab mn Z;have tf:E≠w9.heap.size:=by have:=lb.out.2.1;omega
      have uc:pr≠w9.heap.size:=by have:=li.out.2.1;omega
      have te:i≠w9.heap.size:=by have:=ks.out.2.1;omega
      generalize w9.heap.size=pc at *;refine eW (iS _ pc 0 pr 0 1 0 _ (2*K) eX eX (by rw[aA];exact ph.out) hr.2.1 eu.2.1 hr.2.2 eu.2.2) ?_;intro e ta L;obtain⟨rfl,ii,bw,-,fs⟩:=bj X hr L;have jj:=fs E _ tf it;have ds:=fs i _ te ih;rw[show ((N%D:Nat):Int)*2^1=((N%D*2:Nat):Int) from by push_cast;rfl] at bw;have pb:Hid _:=mT ta pc 0 i 0 _ _ (2*K+1) eX (by rw[aA];exact ia.out) (by rw[aA];exact pf.out) bw.2.1 ds.2.1 bw.2.2 ds.2.2;have ib:Hid (NI w ta E ((N/D:Nat):Int)):=jj;clear L fs jj ds bw it ih eu X Z hr lb li ks mn;go_wp2_with fail;refine eW pb.out ?_;rintro e hw ⟨rfl,fa⟩;have Y:=ab ii fa;have J:Hid (NI w hw E ((N/D:Nat):Int)):=ib.out.G fa;clear fa ib pb ii ph ia pf;have S:Hid (fQ N D=N/D+(if 0<cmpI ((N%D*2:Nat):Int) (D:Int)∨(cmpI ((N%D*2:Nat):Int) (D:Int)=0∧N/D%2=1) then 1 else 0)):=q1f;have tg:cmpI ((N%D*2:Nat):Int) (D:Int)=1∨cmpI ((N%D*2:Nat):Int) (D:Int)=0∨cmpI ((N%D*2:Nat):Int) (D:Int)= -1:=by unfold cmpI;split<;>(try split)<;>simp
      have io:N/D<2^(32*(2*K)):=aD (aX _ _) M.out.1;have s:Hid (N/D<2^(32*(2*K))):=io;generalize cmpI ((N%D*2:Nat):Int) (D:Int)=cv at *;generalize N/D=Q0 at *;clear io;rcases tg with rfl|rfl|rfl
      case' inl=>
       rw[if_pos eX] at S;go_wp2_with fail;refine eW (gW hw 1 eX) ?_;intro e hg oi;obtain⟨p1,rfl,W,hc,ap,bi⟩:=oi;have ai:=ab Y W;have C:=J.out.G W;have bs:p1≠E:=by have:=J.out.2.1;omega
       have hf:Q0<2^(32*(2*K+1)):=aj s.out (ao eX eX);have dr:1<2^(32*(2*K+1)):=eg eX;have cs:=hi9 (rZ hg E 0 E 0 p1 0 Q0 Q0 1 (2*K+1) eX hf dr C.2.1 C.2.1 ap C.2.2 C.2.2 bi);have y:Hid (NI w hg E (Q0:Int)):=C;clear W J C hf dr hc ap bi Y;go_wp2_with fail;refine eW cs.out ?_;intro e oo L;obtain⟨rfl,al,U,-,-⟩:=bj ai y.out L;rw[show (Q0:Int)+1=((Q0+1:Nat):Int) from by omega,← S.out] at U;have R:Hid (NI w oo E ((fQ N D:Nat):Int)):=U;clear L U cs y ai bs;go_wp2_with fail
      case' inr.inl=>
       obtain⟨z,hz,uh⟩:∃ z:Nat,Q0/2^0%2=z∧z≤1:=⟨_,rfl,by omega⟩;have kr:=hi9 (q5K hw E 0 0 Q0 (2*K) eX eX s.out eX J.out.2.2);rw[aA,hz] at kr;rw[cf,dU] at hz;rw[hz] at S;clear hz;go_wp2_with fail;refine eW kr.out ?_;rintro e ol ⟨rfl,fb⟩;have bz:=ab Y fb;have O:Hid (NI w ol E (Q0:Int)):=J.out.G fb;clear fb J Y kr;by_cases ts:z=1
       case' pos=>
        subst ts;rw[if_pos fX] at S;go_wp2_with fail;refine eW (gW ol 1 eX) ?_;intro e hg oi;obtain⟨p1,rfl,W,hc,ap,bi⟩:=oi;have ai:=ab bz W;have C:=O.out.G W;have bs:p1≠E:=by have:=O.out.2.1;omega
        have hf:Q0<2^(32*(2*K+1)):=aj s.out (ao eX eX);have dr:1<2^(32*(2*K+1)):=eg eX;have cs:=hi9 (rZ hg E 0 E 0 p1 0 Q0 Q0 1 (2*K+1) eX hf dr C.2.1 C.2.1 ap C.2.2 C.2.2 bi);have y:Hid (NI w hg E (Q0:Int)):=C;clear W O C hf dr hc ap bi bz;go_wp2_with fail;refine eW cs.out ?_;intro e oo L;obtain⟨rfl,al,U,-,-⟩:=bj ai y.out L;rw[show (Q0:Int)+1=((Q0+1:Nat):Int) from by omega,← S.out] at U;have R:Hid (NI w oo E ((fQ N D:Nat):Int)):=U;clear L U cs y ai bs;go_wp2_with fail
       case' neg=>
        obtain rfl:z=0:=by omega
        rw[if_neg fX] at S;go_wp2_with fail;have R:Hid (NI w ol E ((fQ N D:Nat):Int)):=by rw[S.out,aP];exact O.out
        have al:=bz;clear O bz
      case' inr.inr=>
       rw[if_neg eX] at S;have R:Hid (NI w hw E ((fQ N D:Nat):Int)):=by rw[S.out,aP];exact J.out
       have al:=Y;clear J Y;go_wp2_with fail
      all_goals as_aux_lemma=>
       have ep:fQ N D<2^(32*(2*K+1)):=by
        have h1:=S.out;have h2:=s.out;have h3:2^(32*(2*K))*2≤2^(32*(2*K+1)):=by rw[← bH];exact ao eX eX
        omega
       have ez:=blen_le_iff.2 ep;obtain⟨Q,hQ⟩:∃ Q,Q=fQ N D:=⟨_,rfl⟩;rw[← hQ] at HQ R ep ez;have hj:Hid _:=kJ _ E 0 Q (2*K+1) eX (by rw[aA];exact ep) R.out.2.2;rw[aA] at hj;have lc:Hid (Q<2^(32*(2*K+1))):=ep;obtain⟨LQ,mp⟩:∃ LQ,LQ=blen Q:=⟨_,rfl⟩;rw[← mp] at hj ez;have bm:Hid (LQ=blen Q):=mp;have tx:(LQ:Int)≤700000:=by omega
       clear hQ ep mp ez S s;refine eW hj.out ?_;rintro e tt ⟨rfl,fh⟩;have eb:=ab al fh;have bu:Hid (NI w tt E (Q:Int)):=R.out.G fh;clear fh R al hj;by_cases ce:LQ≤m
       ·have rp:decide (LQ≤m)=true:=by simpa using ce
        have hh:Hid (LQ≤m):=ce;clear ce;go_wp2_with fail
        go_ret3
        exact⟨E,Q,p,p,sgn==0,rfl,eb,bu.out,⟨Or.inl ⟨by rw[HQ.out,← bm.out];exact hh.out,HQ.out.symm,rfl⟩,by rw[HX.out];exact lm.out⟩,cz.out⟩
       ·have rp:decide (LQ≤m)=false:=by simpa using ce
        have hh:Hid (¬ LQ≤m):=ce;have dl:Hid _:=kJ _ E 0 Q (2*K+1) eX (by rw[aA];exact lc.out) bu.out.2.2;rw[aA,← bm.out] at dl;have qz:Q≠0:=by
         intro h0;have:=bm.out;rw[h0] at this;have h2:blen 0=0:=rfl;omega
        have tc:Hid (Q≠0):=qz;clear ce qz;go_wp2_with fail;refine eW dl.out ?_;rintro e hx ⟨rfl,fp⟩;have ec:=ab eb fp;have bv:Hid (NI w hx E (Q:Int)):=bu.out.G fp;clear fp bu eb dl;have gg:¬ nO m Q→jF A B m F (p+1)∧p=F:=fun L=>by
         rw[← HQ.out] at L;obtain⟨h1,h2⟩:=q1E tb.out ox.out pm.out cz.out L;exact⟨h2,h1⟩
        have pi:Hid (¬ nO m Q→jF A B m F (p+1)∧p=F):=gg;clear gg;by_cases hq:LQ=m+1
        ·have rr:((LQ:Int)==(m:Int)+1)=true:=by simp;omega
         have pa:Hid (LQ=m+1):=hq;have px:Hid (Calls Tryz.prog 302 #[.pointer (some ⟨E,0,none⟩)] hx (q5q hx Q)):=q71 hx E 0 Q (2*K+1) eX (by rw[aA];exact lc.out) (by rw[aA];exact tc.out) bv.out.2.1 bv.out.2.2;have uf:IntKind.u64.wrap (m:Int)=m:=by rw[IntKind.wrap_u64];omega
         clear hq;go_wp2_with fail;refine eW px.out ?_;intro e hy tr;obtain⟨k,rfl,hk,fr⟩:=tr;have ee:=ab ec fr;have af:Hid (NI w hy E (Q:Int)):=bv.out.G fr;have pv:Hid (kh Q k):=hk;clear fr bv ec px hk;by_cases fv:m≤k
         ·have sa:decide (m≤k)=true:=by simpa using fv
          have rb:Q%2^m=0:=by
           obtain⟨h1,-⟩:=pv.out;exact Nat.mod_eq_zero_of_dvd (eO (Nat.pow_dvd_pow 2 fv) (dy h1))
          have td:Hid (Q%2^m=0):=rb;have ps:Hid (Calls Tryz.prog 303 #[.pointer (some ⟨E,0,none⟩),.pointer (some ⟨E,0,none⟩),.int .u64 ((1:Nat):Int)] hy (SetTo hy E 0 ((Q/2^1:Nat):Int))):=
           q6r hy E 0 E 0 1 Q Q (2*K+1) eX eX (by rw[aA];exact lc.out) eX af.out.2.1 af.out.2.2 af.out.2.2
          clear fv rb;go_wp2_with fail;refine eW ps.out ?_;intro e tu L;obtain⟨rfl,qc,jp,-,-⟩:=bj ee af.out L;have po:Hid (NI w tu E ((Q/2^1:Nat):Int)):=jp;clear L jp af ee ps;go_wp2_with fail
          go_ret3
          exact⟨E,Q/2^1,p+1,p,sgn==0,rfl,qc,po.out,⟨Or.inr ⟨by rw[HQ.out,← bm.out];exact pa.out,by rw[HQ.out];exact td.out,by rw[HQ.out,Nat.pow_one],rfl⟩,by rw[HX.out];exact lm.out⟩,cz.out⟩
         ·have sa:decide (m≤k)=false:=by simpa using fv
          have gm:¬ nO m Q:=by
           rintro(h|⟨-,h⟩)
           ·exact hh.out (by rw[bm.out];exact h)
           ·obtain⟨h1,h2⟩:=pv.out;have h3:2^(k+1)∣Q:=eO (Nat.pow_dvd_pow 2 eX) (dy h);have h4:Q%2^(k+1)=0:=Nat.mod_eq_zero_of_dvd h3;rw[bH,eD,h1,h2] at h4;have:=ae k;omega
          obtain⟨am,he⟩:=pi.out gm;have di:Hid (jF A B m F (p+1)):=am;have ga:F≤p+1:=by omega
          have gd:p+1≤F+1:=by omega
          have ky:Hid ((F+2-(p+1)).toNat<(F+2-p).toNat):=by show (F+2-(p+1)).toNat<(F+2-p).toNat;omega
          clear gm am fv he;go_wp2_with fail
          go_roundw
          case rel=>exact⟨p+1,by go_num,di.out,ga,gd,ee⟩
          case measure=>have h1:=la.out;have h2:(F+2-(p+1)).toNat<(F+2-p).toNat:=ky.out;simp only[intOf];omega
        ·have rr:((LQ:Int)==(m:Int)+1)=false:=by simp;omega
         have gm:¬ nO m Q:=by
          rintro(h|⟨h,-⟩)
          ·exact hh.out (by rw[bm.out];exact h)
          ·exact hq (by rw[bm.out];exact h)
         obtain⟨am,he⟩:=pi.out gm;have di:Hid (jF A B m F (p+1)):=am;have ga:F≤p+1:=by omega
         have gd:p+1≤F+1:=by omega
         have ky:Hid ((F+2-(p+1)).toNat<(F+2-p).toNat):=by show (F+2-(p+1)).toNat<(F+2-p).toNat;omega
         clear gm am hq he;go_wp2_with fail
         go_roundw
         case rel=>exact⟨p+1,by go_num,di.out,ga,gd,ec⟩
         case measure=>have h1:=la.out;have h2:(F+2-(p+1)).toNat<(F+2-p).toNat:=ky.out;simp only[intOf];omega
end Go.Proofs.YtohcneeihdkfgaaGreatDoor
