/- What is proved here: contracts of package exact's reader of texts: what it reads, over this seat's translation. -/
import Derived.Test.YtfnkkkcojnffdaaGreatDoorC23
import Derived.Test.YtfnkkkcojnffdaaGreatDoorC1
import Derived.Test.YtfnkkkcojnffdaaGreatDoorC3
import Derived.Test.YtfnkkkcojnffdaaGreatDoorC22
import Derived.Test.YtfnkkkcojnffdaaGreatDoorC43
import Derived.Test.YtfnkkkcojnffdaaGreatDoorC42
import Derived.Test.YtfnkkkcojnffdaaGreatDoorC40
namespace Go.Proofs.YtfnkkkcojnffdaaGreatDoor.EN
open Go.ChangeShapes Go.WideShapes Go.ChangeAt Go.RowKit
theorem Tx.list {s:ByteArray} {l:List UInt8} (h:Tx s l):s.toList=l:=by rw[ByteArray.toList_eq];exact h
theorem ik {S s:ByteArray} (h:¬ S=s):(S.toList==s.toList)=false:=by
 rw[beq_eq_false_iff_ne,ByteArray.toList_eq,ByteArray.toList_eq];intro h2;have h3:S.data=s.data:=Array.toList_inj.1 h2;obtain⟨a⟩:=S;obtain⟨b⟩:=s;exact h (by rw[show a=b from h3])
theorem gk {z:Int} {K:Nat} (h:z.natAbs<2^(64*K)) (A:1≤K):QB (z:Rat) K:=
 ⟨h,ad (show 1<2^1 by decide) (ak dT dT)⟩
theorem mO {x y:Rat} {K L:Nat} (B:y≠0) (C:QB x K) (A:QB y L):QB (x/y) (K+L):=by
 obtain⟨i1,i2,i3⟩:=iI B;rw[Rat.div_def];exact q1I C (q1e i3 i1 (by unfold sgn;split<;>(have:=A.2;omega)) A.1)
/-- What a text's pieces say. -/
def rdZ (g t:List UInt8):Int:=sgn (decide (0<g.length)) (dv 0 t)
def rdQ (g t u:List UInt8):Rat:=(rdZ g t:Rat)/((dv 0 u:Int):Rat)
set_option maxHeartbeats 4000000 in
set_option maxRecDepth 20000 in
theorem mL (w:World) (s:ByteArray) (g t r u:List UInt8) (hs:Tx s (g++(t++r))) (hg:Sg g (t++r)) (ht:Digs t) (hu:Digs u) (hn:s.size≤2000) (h0:t≠[]) (h1:u≠[]) (hr:(r=[]∧u=[49])∨r=47::u) (hT:Tab w) (hP:P10 w):
  Calls Tryz.prog 39 #[.string s] w (iE w (if dv 0 u=0 then 0 else if qtx (rdQ g t u)=g++(t++r) then rdQ g t u else 0) (if dv 0 u=0 then 5 else if qtx (rdQ g t u)=g++(t++r) then 0 else 6) (if dv 0 u=0 then ((g.length+t.length+1:Nat):Int) else 0)):=by
 obtain⟨K,hK⟩:∃ K:Nat,K=125:=⟨_,rfl⟩;have lk:Stop r:=fun c r2 h=>by
  rcases hr with ⟨rfl,-⟩|hr
  ·cases h
  ·rw[hr] at h;cases h;decide
 obtain⟨s1,lg,em⟩:=kJ s g (t++r) hs hg;obtain⟨k,hk⟩:=len_succ h0;obtain⟨T,cs,hcut⟩:=hs.cut (a:=(g.length:Int)) (b:=(g.length:Int)+((k:Int)+1)) rfl (by rw[hk];rfl);have mm:=cs.some h0;have hz:=hs.size;have lm:=lg.size;rw[ag,ag] at hz;rw[ag] at lm;have ks:u.length≤2000:=by
  rcases hr with ⟨-,rfl⟩|rfl
  ·decide
  ·rw[aK] at hz;omega
 have lb:=dv_bound (K:=K) dT ht dT;have la:=dv_bound (K:=K) dT hu ks;have ls:(rdZ g t).natAbs<2^(64*K):=by unfold rdZ;rw[fU];exact lb
 have io:Hid (∀ A,_):=em;have dl:Hid (∀ A,_):=fun A=>fr A s g t r hs ht lk dT;have ia:Hid (∀ A,_):=fun A=>nH A T t cs ht dT;have ih:Hid (∀ A v,Num A v (dv 0 t)→Calls Tryz.prog 62 #[.bool (decide (0<g.length)),v] A (gd A (rdZ g t))):=fun A v h=>fF A v _ _ h;have kw:1<2^(64*K):=ad (show 1<2^1 by decide) (ak dT dT);have HF:Hid (∀ A v l z,WholeIs A v z→Num A l 1→Calls Tryz.prog 48 #[v,l] A (RetQ A (z:Rat))):=fun A v l z h2 h3=>gl A v l z 1 K _ h2 h3 dT kw (fun _=>du _) (by rw[Rat.mkRat_one]);have ii:Hid (∀ A v,Num A v (dv 0 u)→Calls Tryz.prog 62 #[.bool false,v] A (gd A (dv 0 u:Int))):=fun A v h=>fF A v false _ h;have dk:(((dv 0 u:Nat):Int):Rat)=0↔dv 0 u=0:=by
  rw[show (0:Rat)=((0:Int):Rat) from rfl,Rat.intCast_inj];omega
 have kk:=gk ls dT;have kb:QB (((dv 0 u:Nat):Int):Rat) K:=gk (by rw[bM];exact la) dT;have HQ:Hid (∀ A v1 v2,G w A→QIs A v1 (rdZ g t:Rat)→QIs A v2 ((dv 0 u:Int):Rat)→Calls Tryz.prog 30 #[v1,v2] A (kQ A (if dv 0 u=0 then 0 else rdQ g t u) (if dv 0 u=0 then 5 else 0))):=fun A v1 v2 g2 h2 h3=>by
  have h:=qv A v1 v2 _ _ K dT dT (hT.G g2) h2 h3 kk kb;by_cases hd:dv 0 u=0
  ·rw[if_pos (dk.2 hd),if_pos (dk.2 hd)] at h;rw[if_pos hd,if_pos hd];exact h
  ·rw[if_neg (fun e=>hd (dk.1 e)),if_neg (fun e=>hd (dk.1 e))] at h;rw[if_neg hd,if_neg hd];exact h
 have ep:Hid (dv 0 u≠0→∀ A v,G w A→QIs A v (rdQ g t u)→Calls Tryz.prog 10 #[v] A fun e w'=>e= .returned (.string ⟨(qtx (rdQ g t u)).toArray⟩)∧G A w'):=fun hd A v g2 h=>nK A v _ (K+K) dT dT h (mO (fun e=>hd (dk.1 e)) kk kb) (hP.G g2);have hy:Hid (qtx (rdQ g t u)=g++(t++r)↔(⟨(qtx (rdQ g t u)).toArray⟩:ByteArray)=s):=by
  show _↔_;have h2:s.data.toList=g++(t++r):=hs;constructor
  ·intro h;rw[h,← h2]
  ·intro h;rw[← h2,← h]
 have ib:Hid (∀ U,Tx U u→∀ A,_):=fun U hU A=>nH A U u hU hu ks;generalize hZ:rdZ g t=Z at *;generalize hQ:rdQ g t u=QQ at *;generalize hD:dv 0 u=D at *;generalize dv 0 t=N at *;generalize hS:(⟨(qtx QQ).toArray⟩:ByteArray)=S at *;obtain⟨RQ,RC,RA,Q1,C1,y,e1,e2,e3,e4,e5⟩:∃ (RQ:Rat) (RC RA:Int) (Q1:Rat) (C1:Int),((D=0∧RQ=0∧RC=5∧RA=((g.length+t.length+1:Nat):Int)∧Q1=0∧C1=5)∨(D≠0∧qtx QQ=g++(t++r)∧RQ=QQ∧RC=0∧RA=0∧Q1=QQ∧C1=0)∨(D≠0∧¬ qtx QQ=g++(t++r)∧RQ=0∧RC=6∧RA=0∧Q1=QQ∧C1=0))∧
   (if D=0 then (0:Rat) else if qtx QQ=g++(t++r) then QQ else 0)=RQ∧(if D=0 then (5:Int) else if qtx QQ=g++(t++r) then 0 else 6)=RC∧(if D=0 then ((g.length+t.length+1:Nat):Int) else 0)=RA∧(if D=0 then (0:Rat) else QQ)=Q1∧(if D=0 then (5:Int) else 0)=C1:=by
  refine⟨_,_,_,_,_,?_,rfl,rfl,rfl,rfl,rfl⟩;by_cases h:D=0
  ·rw[if_pos h,if_pos h,if_pos h,if_pos h,if_pos h];exact Or.inl ⟨h,rfl,rfl,rfl,rfl,rfl⟩
  ·rw[if_neg h,if_neg h,if_neg h,if_neg h,if_neg h];by_cases h2:qtx QQ=g++(t++r)
   ·rw[if_pos h2,if_pos h2];exact Or.inr (Or.inl ⟨h,h2,rfl,rfl,rfl,rfl,rfl⟩)
   ·rw[if_neg h2,if_neg h2];exact Or.inr (Or.inr ⟨h,h2,rfl,rfl,rfl,rfl,rfl⟩)
 rw[e1,e2,e3];rw[e4,e5] at HQ;clear e1 e2 e3 e4 e5;have ca:=hi9 y;clear y;rcases hr with ⟨rfl,rfl⟩|rfl
 ·have mp:D≠0:=by rw[← hD];decide
  have lx:Hid (D≠0):=mp;have ci:Hid (∀ A,_):=ib.out ⟨#[49]⟩ (q1j [49]);rw[show ([]:List UInt8).length=0 from rfl,aP,hk] at hz lm;rw[hk] at dl ca;have nc:T.toList.isEmpty=false:=by rw[cs.list];cases t with|nil=>exact absurd rfl h0|cons c t=>rfl
  have nd:T.toList≠[]:=by rw[cs.list];exact h0
  have t0:decide ((2000:Int)<(g.length:Int)+((k:Int)+1))=false:=decide_eq_false dT;have o:Hid _:=hy;generalize qtx QQ=qt at *;generalize g++(t++[])=ll at *;generalize g.length=a at *;clear hs hg ht lk lg em cs hu hk h0 h1 hZ hQ hD hS ib hy lb la ls kw kk kb dk ks hT hP mp mm;go_enter Tryz.func39,Tryz.ntmps39;go_wp2_with fail;obtain⟨w0,cc,g0,np,R0,R1⟩:=fW w [.bool false,.slice none 0 0,.slice none 0 0] [.int .i64 0,.int .i64 0] 29 65;rw[cc];clear cc;refine dS (io.out _) ?_;rintro e A ⟨rfl,rfl⟩;go_wp2_with fail;refine dS (dl.out _) ?_;rintro e w3 ⟨rfl,fs⟩;clear io dl;go_wp2_with fail
  trace_state
  refine dS (ia.out _) ?_;rintro e w4 ⟨v4,rfl,g4,hh⟩;have cl:Hid _:=ih.out w4 v4 hh;have fv:=aa fs g4;clear ia ih hh g4 fs;go_wp2_with fail;refine dS (cl.out) ?_;rintro e w5 ⟨v5,rfl,g5,ho⟩;have gg:=aa fv g5;have cb:=fo (w:=w5) (d:=1) (e:=78) dT dT;have ga:=(af w5).alloc (.cells #[.int .u64 ((1:Nat):Int)] 78);have dq:=hi9 (HF.out _ v5 _ Z (ho.G ga) cb);have he:=aa gg ga;clear cl cb ho g5 fv gg ga;go_wp2_with fail;refine dS dq.out ?_;rintro e w6 ⟨v6,rfl,g6,hl⟩;have gm:=aa he g6;have ds:Hid (QIs w6 v6 (Z:Rat)):=hl;clear dq he g6 hl;go_wp2_with fail;refine dS (ci.out _) ?_;rintro e w7 ⟨v7,rfl,g7,hj⟩;have cn:Hid _:=ii.out w7 v7 hj;have ha:=aa gm g7;have ea:Hid (QIs w7 v6 (Z:Rat)):=ds.out.G g7;clear ci ii hj g7 gm ds;go_wp2_with fail;refine dS (cn.out) ?_;rintro e w8 ⟨v8,rfl,g8,hp⟩;have hc:=aa ha g8;have cb:=fo (w:=w8) (d:=1) (e:=78) dT dT;have ga:=(af w8).alloc (.cells #[.int .u64 ((1:Nat):Int)] 78);have dr:=hi9 (HF.out _ v8 _ (D:Int) (hp.G ga) cb);have hf:=aa hc ga;have eb:Hid (QIs (w8.alloc (.cells #[.int .u64 ((1:Nat):Int)] 78)) v6 (Z:Rat)):=(ea.out.G g8).G ga;clear cn cb hp g8 ha hc ga HF ea;go_wp2_with fail;refine dS dr.out ?_;rintro e w9 ⟨v9,rfl,g9,hm⟩;have cz:=aa hf g9;have ec:=hi9 (HQ.out w9 v6 v9 (aa g0 cz) (eb.out.G g9) hm);clear dr hf g9 hm eb HQ;go_wp2_with fail;refine dS ec.out ?_;intro e hw hs;obtain⟨v,rfl,g10,hv⟩:=hs;have HV:Hid (QIs hw v Q1):=hv;obtain⟨z1,z2,z3,z4,z5,z6,rfl,-,-⟩:=hv;generalize decide (Rat.num Q1<0)=tq at *;have am:=aa cz g10;clear ec cz g10
  rcases ca.out with ⟨hD,-⟩|y
  ·exact absurd hD lx.out
  ·clear lx;have al:=hi9 y;have lc:Q1=QQ∧C1=0∧D≠0:=by
    rcases y with ⟨h1,-,-,-,-,h2,h3⟩|⟨h1,-,-,-,-,h2,h3⟩
    ·exact⟨h2,h3,h1⟩
    ·exact⟨h2,h3,h1⟩
   obtain⟨rfl,rfl,hD⟩:=lc;have cr:Hid (∀ A v,G w A→QIs A v Q1→_):=ep.out hD;have cd:Hid (Rec _ w.heap.size [.bool false,.slice none 0 0,.slice none 0 0]):=R0;have ce:Hid (Rec _ (w.heap.size+1) [.int .i64 0,.int .i64 0]):=R1;clear ca ep y hD R0 R1;go_wp2_with fail;obtain⟨hx,cc,g11,ms,R0⟩:=eD hw [.bool tq,.slice z1 z2 z3,.slice z4 z5 z6] 29;rw[cc];clear cc;have cx:Hid (QIs hx (.agg #[.bool tq,.slice z1 z2 z3,.slice z4 z5 z6]) Q1):=HV.out.G g11;refine dS (cr.out hx _ (aa (aa g0 am) g11) cx.out) ?_;rintro e lw ⟨rfl,g12⟩;have kv:Hid (QIs lw (.agg #[.bool tq,.slice z1 z2 z3,.slice z4 z5 z6]) Q1):=cx.out.G g12;have gA:=aa (aa am g11) g12;obtain⟨L,M,O,R,W,X⟩:=ev cd (gA);obtain⟨Y,i,j,m⟩:=eU ce (gA);obtain⟨B,C,E,F,I,J⟩:=ev R0 (g12);clear cr cx HV am;rcases al.out with ⟨-,hq,rfl,rfl,rfl,-,-⟩|⟨-,hq,rfl,rfl,rfl,-,-⟩
   ·have hS:S=s:=o.out.1 hq;subst hS;clear hq al o;go_wp2_with fail;have ek:=qo (.bool tq) (.slice z1 z2 z3) (.slice z4 z5 z6) (.int .i64 0) (.int .i64 0) (bs cd.out gA) (bs ce.out gA) dT trivial trivial trivial (fun _ h=>by cases h) (fun _ h=>by cases h) kv.out;obtain⟨x9,e9,h9,Q0,Q2⟩:=fE (.bool tq) (.slice z1 z2 z3) (.slice z4 z5 z6) (.int .i64 0) (.int .i64 0) (bs cd.out gA) (bs ce.out gA) dT (aa g0 gA) (ay _) dT;rw[e9] at ek ⊢;clear e9 B C E F I J L M O R W X Y i j m;obtain⟨an,ao,ap,bi,bl,bn⟩:=ev Q0 (af _);obtain⟨bq,bu,bv,bz⟩:=eU Q2 (af _);refine bodyPost_ret (v:= .tuple #[.agg #[.bool tq,.slice z1 z2 z3,.slice z4 z5 z6],.agg #[.int .i64 0,.int .i64 0]]) (by simp [results,Tryz.results39,go_sem, *]) rfl ?_;exact⟨_,rfl,h9,ek⟩
   ·have hS:¬ S=s:=fun h=>hq (o.out.2 h);have mv:=ik hS;clear hq al o;go_wp2_with fail;obtain⟨x9,e9,h9,Q0,Q2⟩:=fE (.bool false) (.slice none 0 0) (.slice none 0 0) (.int .i64 6) (.int .i64 0) (bs cd.out gA) (bs ce.out gA) dT (aa g0 gA) (ay _) dT;rw[e9];clear e9 B C E F I J L M O R W X Y i j m;obtain⟨an,ao,ap,bi,bl,bn⟩:=ev Q0 (af _);obtain⟨bq,bu,bv,bz⟩:=eU Q2 (af _);refine bodyPost_ret (v:= .tuple #[.agg #[.bool false,.slice none 0 0,.slice none 0 0],.agg #[.int .i64 6,.int .i64 0]]) (by simp [results,Tryz.results39,go_sem, *]) rfl ?_;exact⟨_,rfl,h9,gp _⟩
 ·obtain⟨n,kr⟩:=len_succ h1;have oj:∀ hi:g.length+(k+1)<s.size,(s[g.length+(k+1)]'hi).toNat=47:=fun hi=>hs.at (c:=47) (by rw[aZ dT,cR,aZ dT,hk,dJ];rfl) hi;have li:Tx s ((g++(t++[47]))++(u++[])):=by
   have h:Tx s (g++(t++47::u)):=hs;rw[show g++(t++47::u)=(g++(t++[47]))++(u++[]) from by simp] at h;exact h
  have kq:(g++(t++[47])).length=g.length+(k+1)+1:=by rw[ag,ag,hk];rfl
  have ly:Hid (∀ A,Calls Tryz.prog 89 #[.string s,.int .i64 ((g.length:Int)+((k:Int)+1)+1)] A fun e w'=>e= .returned (.int .i64 ((g.length:Int)+((k:Int)+1)+1+((n:Int)+1)))∧G A w'):=fun A=>by
   have h:=fr A s (g++(t++[47])) u [] li hu (fun _ _ h=>by cases h) dT;rw[kq,kr] at h;exact h
  obtain⟨U,hU,nl⟩:=li.cut (a:=(g.length:Int)+((k:Int)+1)+1) (b:=(g.length:Int)+((k:Int)+1)+1+((n:Int)+1)) (by rw[kq];omega) (by rw[kq,kr];omega);have ng:=hU.some h1;have nd:T.toList≠[]:=by rw[cs.list];exact h0
  have oi:U.toList≠[]:=by rw[hU.list];exact h1
  have nc:T.toList.isEmpty=false:=by rw[cs.list];cases t with|nil=>exact absurd rfl h0|cons c t=>rfl
  have ob:U.toList.isEmpty=false:=by rw[hU.list];cases u with|nil=>exact absurd rfl h1|cons c u=>rfl
  have oa:((g.length:Int)+((k:Int)+1)+1+((n:Int)+1)<(g.length:Int)+((k:Int)+1+((n:Int)+1+1)))=False:=eq_false dT;clear mm ng;have ci:Hid (∀ A,_):=ib.out U hU;rw[aK,hk,kr] at hz lm;have t0:decide ((2000:Int)<(g.length:Int)+((k:Int)+1+((n:Int)+1+1)))=false:=decide_eq_false dT;rw[hk] at dl ca;have o:Hid _:=hy;generalize qtx QQ=qt at *;generalize g++(t++47::u)=ll at *;generalize g.length=a at *;clear hs hg ht lk lg li em cs hU hu hk kq h0 h1 hZ hQ hD hS ib hy lb la ls kw kk kb dk ks kr hT hP;go_enter Tryz.func39,Tryz.ntmps39;go_wp2_with fail;obtain⟨w0,cc,g0,np,R0,R1⟩:=fW w [.bool false,.slice none 0 0,.slice none 0 0] [.int .i64 0,.int .i64 0] 29 65;rw[cc];clear cc;refine dS (io.out _) ?_;rintro e A ⟨rfl,rfl⟩;go_wp2_with fail;refine dS (dl.out _) ?_;rintro e w2 ⟨rfl,g2⟩;clear io dl;go_wp2_with fail;refine dS (ly.out _) ?_;rintro e w3 ⟨rfl,g3⟩;have fs:=aa g2 g3;clear ly g2 g3;go_wp2_with fail;refine dS (ia.out _) ?_;rintro e w4 ⟨v4,rfl,g4,hh⟩;have cl:Hid _:=ih.out w4 v4 hh;have fv:=aa fs g4;clear ia ih hh g4 fs;go_wp2_with fail;refine dS (cl.out) ?_;rintro e w5 ⟨v5,rfl,g5,ho⟩;have gg:=aa fv g5;have cb:=fo (w:=w5) (d:=1) (e:=78) dT dT;have ga:=(af w5).alloc (.cells #[.int .u64 ((1:Nat):Int)] 78);have dq:=hi9 (HF.out _ v5 _ Z (ho.G ga) cb);have he:=aa gg ga;clear cl cb ho g5 fv gg ga;go_wp2_with fail;refine dS dq.out ?_;rintro e w6 ⟨v6,rfl,g6,hl⟩;have gm:=aa he g6;have ds:Hid (QIs w6 v6 (Z:Rat)):=hl;clear dq he g6 hl;go_wp2_with fail;refine dS (ci.out _) ?_
  rintro e w7 ⟨v7,rfl,g7,hj⟩;have cn:Hid _:=ii.out w7 v7 hj;have ha:=aa gm g7;have ea:Hid (QIs w7 v6 (Z:Rat)):=ds.out.G g7;clear ci ii hj g7 gm ds;go_wp2_with fail;refine dS (cn.out) ?_;rintro e w8 ⟨v8,rfl,g8,hp⟩;have hc:=aa ha g8;have cb:=fo (w:=w8) (d:=1) (e:=78) dT dT;have ga:=(af w8).alloc (.cells #[.int .u64 ((1:Nat):Int)] 78);have dr:=hi9 (HF.out _ v8 _ (D:Int) (hp.G ga) cb);have hf:=aa hc ga;have eb:Hid (QIs (w8.alloc (.cells #[.int .u64 ((1:Nat):Int)] 78)) v6 (Z:Rat)):=(ea.out.G g8).G ga;clear cn cb hp g8 ha hc ga HF ea;go_wp2_with fail;refine dS dr.out ?_;rintro e w9 ⟨v9,rfl,g9,hm⟩;have cz:=aa hf g9;have ec:=hi9 (HQ.out w9 v6 v9 (aa g0 cz) (eb.out.G g9) hm);clear dr hf g9 hm eb HQ;go_wp2_with fail;refine dS ec.out ?_;intro e hw hs;obtain⟨v,rfl,g10,hv⟩:=hs;have HV:Hid (QIs hw v Q1):=hv;obtain⟨z1,z2,z3,z4,z5,z6,rfl,-,-⟩:=hv;generalize decide (Rat.num Q1<0)=tq at *;have am:=aa cz g10;clear ec cz g10;rcases ca.out with ⟨hD,rfl,rfl,rfl,rfl,rfl⟩|y
  ·have gB:=am.alloc (.cells #[.bool tq,.slice z1 z2 z3,.slice z4 z5 z6] 29);clear ca ep o;obtain⟨B,C,E,F,I,J⟩:=ev R0 (gB);obtain⟨it,jj,jp,jx⟩:=eU R1 (gB);go_wp2_with fail;obtain⟨x9,e9,h9,Q0,Q2⟩:=fE (.bool false) (.slice none 0 0) (.slice none 0 0) (.int .i64 5) (.int .i64 ((a:Int)+((k:Int)+1)+1)) (bs R0.out gB) (bs R1.out gB) dT (aa g0 gB) (ay _) dT;rw[e9];clear e9 B C E F I J it jj jp jx;obtain⟨an,ao,ap,bi,bl,bn⟩:=ev Q0 (af _);obtain⟨bq,bu,bv,bz⟩:=eU Q2 (af _);refine bodyPost_ret (v:= .tuple #[.agg #[.bool false,.slice none 0 0,.slice none 0 0],.agg #[.int .i64 5,.int .i64 ((a:Int)+((k:Int)+1)+1)]]) (by simp [results,Tryz.results39,go_sem, *]) rfl ?_;exact⟨_,rfl,h9,gp _⟩
  ·skip
   have al:=hi9 y;have lc:Q1=QQ∧C1=0∧D≠0:=by
    rcases y with ⟨h1,-,-,-,-,h2,h3⟩|⟨h1,-,-,-,-,h2,h3⟩
    ·exact⟨h2,h3,h1⟩
    ·exact⟨h2,h3,h1⟩
   obtain⟨rfl,rfl,hD⟩:=lc;have cr:Hid (∀ A v,G w A→QIs A v Q1→_):=ep.out hD;have cd:Hid (Rec _ w.heap.size [.bool false,.slice none 0 0,.slice none 0 0]):=R0;have ce:Hid (Rec _ (w.heap.size+1) [.int .i64 0,.int .i64 0]):=R1;clear ca ep y hD R0 R1;go_wp2_with fail;obtain⟨hx,cc,g11,ms,R0⟩:=eD hw [.bool tq,.slice z1 z2 z3,.slice z4 z5 z6] 29;rw[cc];clear cc;have cx:Hid (QIs hx (.agg #[.bool tq,.slice z1 z2 z3,.slice z4 z5 z6]) Q1):=HV.out.G g11;refine dS (cr.out hx _ (aa (aa g0 am) g11) cx.out) ?_;rintro e lw ⟨rfl,g12⟩;have kv:Hid (QIs lw (.agg #[.bool tq,.slice z1 z2 z3,.slice z4 z5 z6]) Q1):=cx.out.G g12;have gA:=aa (aa am g11) g12;obtain⟨L,M,O,R,W,X⟩:=ev cd (gA);obtain⟨Y,i,j,m⟩:=eU ce (gA);obtain⟨B,C,E,F,I,J⟩:=ev R0 (g12);clear cr cx HV am;rcases al.out with ⟨-,hq,rfl,rfl,rfl,-,-⟩|⟨-,hq,rfl,rfl,rfl,-,-⟩
   ·have hS:S=s:=o.out.1 hq;subst hS;clear hq al o;go_wp2_with fail;have ek:=qo (.bool tq) (.slice z1 z2 z3) (.slice z4 z5 z6) (.int .i64 0) (.int .i64 0) (bs cd.out gA) (bs ce.out gA) dT trivial trivial trivial (fun _ h=>by cases h) (fun _ h=>by cases h) kv.out;obtain⟨x9,e9,h9,Q0,Q2⟩:=fE (.bool tq) (.slice z1 z2 z3) (.slice z4 z5 z6) (.int .i64 0) (.int .i64 0) (bs cd.out gA) (bs ce.out gA) dT (aa g0 gA) (ay _) dT;rw[e9] at ek ⊢;clear e9 B C E F I J L M O R W X Y i j m;obtain⟨an,ao,ap,bi,bl,bn⟩:=ev Q0 (af _);obtain⟨bq,bu,bv,bz⟩:=eU Q2 (af _);refine bodyPost_ret (v:= .tuple #[.agg #[.bool tq,.slice z1 z2 z3,.slice z4 z5 z6],.agg #[.int .i64 0,.int .i64 0]]) (by simp [results,Tryz.results39,go_sem, *]) rfl ?_;exact⟨_,rfl,h9,ek⟩
   ·have hS:¬ S=s:=fun h=>hq (o.out.2 h);have mv:=ik hS;clear hq al o;go_wp2_with fail;obtain⟨x9,e9,h9,Q0,Q2⟩:=fE (.bool false) (.slice none 0 0) (.slice none 0 0) (.int .i64 6) (.int .i64 0) (bs cd.out gA) (bs ce.out gA) dT (aa g0 gA) (ay _) dT;rw[e9];clear e9 B C E F I J L M O R W X Y i j m;obtain⟨an,ao,ap,bi,bl,bn⟩:=ev Q0 (af _);obtain⟨bq,bu,bv,bz⟩:=eU Q2 (af _);refine bodyPost_ret (v:= .tuple #[.agg #[.bool false,.slice none 0 0,.slice none 0 0],.agg #[.int .i64 6,.int .i64 0]]) (by simp [results,Tryz.results39,go_sem, *]) rfl ?_;exact⟨_,rfl,h9,gp _⟩
end Go.Proofs.YtfnkkkcojnffdaaGreatDoor.EN
