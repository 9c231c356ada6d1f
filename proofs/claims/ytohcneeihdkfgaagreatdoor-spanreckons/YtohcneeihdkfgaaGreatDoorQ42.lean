/- What is proved here: contracts of package ends: Pow and its way, over this seat's translation.
What is proved here: contract of package ends: Pow, over this seat's translation.
What is proved here: contracts of the reference: times, raise, W's raise, Outwards, over this seat's translation.
What is proved here: contracts of the reference: W's raise, Outwards, over this seat's translation.
What is proved here: contracts of package span: wrong, always, over this seat's translation.
What is proved here: what holds between the operations of package span's reckoned, over this seat's translation.
What is proved here: contracts of package span: reckoned by a way that has no errors, and by Quo, over this seat's translation.
What is proved here: what holds between the operations of a region that stores a span of floats late; contracts of package span: Add, Sub, Mul, Quo, over this seat's translation. -/
import Derived.Test.YtohcneeihdkfgaaGreatDoorQ9
import Derived.Test.YtohcneeihdkfgaaGreatDoorQ1
import Derived.Test.YtohcneeihdkfgaaGreatDoorQ3
import Derived.Test.YtohcneeihdkfgaaGreatDoorQ41
import Derived.Test.YtohcneeihdkfgaaGreatDoorQ37
import Derived.Test.YtohcneeihdkfgaaGreatDoorQ10
import Derived.Test.YtohcneeihdkfgaaGreatDoorQ8
import Derived.Test.YtohcneeihdkfgaaGreatDoorQ6
import Derived.Test.YtohcneeihdkfgaaGreatDoorQ38
namespace Go.Proofs.YtohcneeihdkfgaaGreatDoor.EN
open Go.ChangeShapes Go.WideShapes Go.ChangeAt Go.RowKit
theorem q6c:QB 1 1:=by unfold QB;decide
theorem nF {x:Rat} {K:Nat} (A:QB x K):∀ i:Nat,QB (x^i) (K*i+1)
 |0=>by rw[Rat.pow_zero];exact q6c
 |i+1=>by
  rw[Rat.pow_succ];have:=iU (nF A i) A;rw[show K*i+1+K=K*(i+1)+1 from by rw[Nat.mul_succ];omega] at this;exact this
set_option maxHeartbeats 1000000 in
theorem q3b (w:World) (v:Value) (x:Rat) (n bn:Nat) (hT:Tab w) (hn:n≤12) (hx:QIs w v x) (bx:QB x 33) (bs:Rec w bn [.int .i64 n]):
  Calls Tryz.prog 205 #[v,.pointer (some ⟨bn,0,none⟩)] w (RetQ w (x^n)):=by
 have HI:Hid (∀ w1:World,Calls Tryz.prog 12 #[.int .i64 1] w1 (RetQ w1 1)):=fun w1=>q6R w1 1 eX eX;have HM:Hid (∀ (w1:World) (v1 v2:Value) (i:Nat),G w w1→i<12→QIs w1 v1 (x^i)→QIs w1 v2 x→Calls Tryz.prog 18 #[v1,v2] w1 (RetQ w1 (x^(i+1)))):=fun w1 v1 v2 i g hi k1 k2=>by
  rw[Rat.pow_succ];exact q09 w1 v1 v2 _ x 400 eX eX (hT.G g) k1 k2 ((nF bx i).mono eX) (bx.mono eX)
 have bw:Hid (Rec w bn [.int .i64 n]):=bs;have HX:Hid (QIs w v x):=hx;obtain⟨a1,k1,c1,a2,k2,c2,rfl,-,-⟩:=hx;have hk:Hid (Rat→True):=fun _=>trivial;have hl:=bs.lt;clear bx bs hT;obtain⟨t1,cz⟩:∃ t,t=decide (x.num<0):=⟨_,rfl⟩;rw[← cz] at HX ⊢;clear cz;go_enter Tryz.func205,Tryz.ntmps205;go_wp2_with fail;obtain⟨w0,ag,g0,fp,R0,R1⟩:=gF w [.bool t1,.slice a1 k1 c1,.slice a2 k2 c2] [.bool false,.slice none 0 0,.slice none 0 0] 29 29;rw[ag];clear ag;refine Calls.mono (P:=Tryz.prog) (HI.out w0) ?_;intro e w1 hs;obtain⟨u,rfl,g1,hu⟩:=hs;obtain⟨a3,k3,c3,a4,k4,c4,rfl,B⟩:=gl hu;obtain⟨t2,di⟩:∃ t,t=decide ((1:Rat).num<0):=⟨_,rfl⟩;rw[← di] at B ⊢;clear di hu HI;have cc:Hid (QIs w1 (.agg #[.bool t2,.slice a3 k3 c3,.slice a4 k4 c4]) 1):=B;clear B;have gx:=et g1 (.cells #[.bool t2,.slice a3 k3 c3,.slice a4 k4 c4] 29);have bu:Hid (Rec w0 bn [.int .i64 n]):=aw bw.out g0;obtain⟨O,R⟩:=q6o bu (gx);go_wp2_with fail;clear O R gx;obtain⟨w2,ag,g2,fr,S0⟩:=ft w1 [.bool t2,.slice a3 k3 c3,.slice a4 k4 c4] 29;rw[ag];clear ag;have em:=g1.size;have hh:w.heap.size<w1.heap.size:=by omega
 have hj:w.heap.size+1<w1.heap.size:=by omega
 have bq:=ab g0 (ab g1 g2);have RA:Hid (Rec w2 w.heap.size _):=aw (aw R0.out g1) g2;have RB:Hid (Rec w2 (w.heap.size+1) _):=aw (aw R1.out g1) g2;have cd:Hid (QIs w2 (.agg #[.bool t2,.slice a3 k3 c3,.slice a4 k4 c4]) (x^0)):=by show QIs _ _ _;rw[Rat.pow_zero];exact QIs.G cc.out g2
 have ce:Hid (QIs w2 (.agg #[.bool t1,.slice a1 k1 c1,.slice a2 k2 c2]) x):=QIs.G HX.out bq;have ee:w.heap.size≤w1.heap.size:=by omega
 generalize w1.heap.size=A at *;clear g1 g2 g0 fp fr R0 R1 bu cc HX bw em
 go_loopw [7] (fun vi wr=>∃ (i:Nat) (s:Bool) (d e d' M:Nat) (u u':Option Addr),i≤n∧vi= .int .i64 i∧Rec wr A [.bool s,.slice u d e,.slice u' d' M]∧QIs wr (.agg #[.bool s,.slice u d e,.slice u' d' M]) (x^i)∧Rec wr w.heap.size [.bool t1,.slice a1 k1 c1,.slice a2 k2 c2]∧QIs wr (.agg #[.bool t1,.slice a1 k1 c1,.slice a2 k2 c2]) x∧Rec wr (w.heap.size+1) [.bool false,.slice none 0 0,.slice none 0 0]∧G w wr) (fun vi _=>(n-intOf vi).toNat)
 case atStart=>exact⟨0,t2,k3,c3,k4,c4,a3,a4,by omega,rfl,S0.out,cd.out,RA.out,ce.out,RB.out,bq⟩
 case round=>
  obtain⟨i,s,d,e,d',M,u,u',hm,rfl,bl,dr,cr,ds,cs,hG⟩:=hrel;have HR:Hid (Rec wr A [.bool s,.slice u d e,.slice u' d' M]):=bl;have ai:Hid (QIs wr (.agg #[.bool s,.slice u d e,.slice u' d' M]) (x^i)):=dr;have bm:Hid (Rec wr w.heap.size [.bool t1,.slice a1 k1 c1,.slice a2 k2 c2]):=cr;have al:Hid (QIs wr (.agg #[.bool t1,.slice a1 k1 c1,.slice a2 k2 c2]) x):=ds;have K:Hid (Rec wr (w.heap.size+1) [.bool false,.slice none 0 0,.slice none 0 0]):=cs;clear bl dr cr ds cs S0 cd RA ce RB bq;by_cases bi:i<n
  ·have tt:decide (i<n)=true:=decide_eq_true bi;have HC:=hi9 (HM.out wr _ _ i hG eX ai.out al.out);obtain⟨C,D,E,F,I,J⟩:=fL HR (ad _);obtain⟨c,j,k,m,o,af⟩:=fL bm (ad _);go_wp2_with fail;clear C D E F I J c j k m o af;refine Calls.mono (P:=Tryz.prog) HC.out ?_;intro e9 w3 hs;obtain⟨v9,rfl,g3,dq⟩:=hs;obtain⟨a5,k5,c5,a6,k6,c6,rfl,B⟩:=gl dq;obtain⟨t3,dl⟩:∃ t,t=decide ((x^(i+1)).num<0):=⟨_,rfl⟩;rw[← dl] at B ⊢;clear dl dq HC;have cl:Hid (QIs w3 (.agg #[.bool t3,.slice a5 k5 c5,.slice a6 k6 c6]) (x^(i+1))):=B;have ci:Hid (QIs w3 (.agg #[.bool t1,.slice a1 k1 c1,.slice a2 k2 c2]) x):=QIs.G al.out g3;have N:Hid (Rec w3 A _):=aw HR.out g3;have an:Hid (Rec w3 w.heap.size _):=aw bm.out g3;have ap:Hid (Rec w3 (w.heap.size+1) _):=aw K.out g3;have bz:Hid (G w w3):=ab hG g3;clear B ai al HR bm K hG g3;obtain⟨S,U,W,X,Y,Z⟩:=fL N (ad _);go_wp2_with fail;have ep:QIs _ _ (x^(i+1)):=QIs.set3 (u1:= .bool t3) (u2:= .slice a5 k5 c5) (u3:= .slice a6 k6 c6) cl.out N.out trivial trivial trivial;have fh:QIs _ _ x:=QIs.set3 (u1:= .bool t3) (u2:= .slice a5 k5 c5) (u3:= .slice a6 k6 c6) ci.out N.out trivial trivial trivial;have eu:Rec _ A [.bool t3,.slice a5 k5 c5,.slice a6 k6 c6]:=eC N.out;have ez:=Rec.g3 (b:=A) (u:= .bool t3) (v:= .slice a5 k5 c5) (x:= .slice a6 k6 c6) bz.out ee
   have fa:Rec (((w3.setCell ⟨A,0,none⟩ (.bool t3)).setCell ⟨A,1,none⟩ (.slice a5 k5 c5)).setCell ⟨A,2,none⟩ (.slice a6 k6 c6)) w.heap.size _:=((an.out.oth (p:=⟨A,0,none⟩) _ (by show A≠w.heap.size;omega)).oth (p:=⟨A,1,none⟩) _ (by show A≠w.heap.size;omega)).oth (p:=⟨A,2,none⟩) _ (by show A≠w.heap.size;omega);have fb:Rec (((w3.setCell ⟨A,0,none⟩ (.bool t3)).setCell ⟨A,1,none⟩ (.slice a5 k5 c5)).setCell ⟨A,2,none⟩ (.slice a6 k6 c6)) (w.heap.size+1) _:=((ap.out.oth (p:=⟨A,0,none⟩) _ (by show A≠w.heap.size+1;omega)).oth (p:=⟨A,1,none⟩) _ (by show A≠w.heap.size+1;omega)).oth (p:=⟨A,2,none⟩) _ (by show A≠w.heap.size+1;omega);generalize ((w3.setCell ⟨A,0,none⟩ (.bool t3)).setCell ⟨A,1,none⟩ (.slice a5 k5 c5)).setCell ⟨A,2,none⟩ (.slice a6 k6 c6)=w4 at *;clear S U W X Y Z cl N an ap ci bz;go_wp2_with fail
   go_roundw
   case rel=>exact⟨i+1,t3,k5,c5,k6,c6,a5,a6,by omega,by go_num,eu,ep,fa,fh,fb,ez⟩
   case measure=>simp only[intOf];omega
  ·obtain rfl:i=n:=by omega
   have tt:decide (i<i)=false:=decide_eq_false (Nat.lt_irrefl _);have am:=ai.out;have ec:Hid (s=decide ((x^i).num<0)):=q3f am;generalize x^i=z at *;clear ai bi HM al;obtain⟨C,D,E,F,I,J⟩:=fL HR (ad _);have ea:Hid (Num wr (.slice u d e) (z).num.natAbs):=oL am;have eb:Hid (Num wr (.slice u' d' M) (iw (z).den)):=oK am;clear am;obtain⟨ha,hc,hd,he,hf,hg⟩:=fL K (((ad _)));have ca:Num _ _ _:=fC (u1:= .bool s) (u2:= .slice u d e) (u3:= .slice u' d' M) ea.out (aw K.out (ad _)) trivial trivial trivial;have cb:Num _ _ _:=fC (u1:= .bool s) (u2:= .slice u d e) (u3:= .slice u' d' M) eb.out (aw K.out (ad _)) trivial trivial trivial;go_wp2_with fail;have hT:Hid (Rec _ (w.heap.size+1) [.bool s,.slice u d e,.slice u' d' M]):=eC (aw K.out (ad _));have g9:=Rec.h3 hT.out (hG) eX;generalize (World.setCell (World.setCell (World.setCell wr ⟨w.heap.size+1,0,none⟩ (.bool s)) ⟨w.heap.size+1,1,none⟩ (.slice u d e)) ⟨w.heap.size+1,2,none⟩ (.slice u' d' M))=w9 at *;obtain⟨fs,fv,ga,gd,gg,gm⟩:=fL hT (((ad _)));refine bodyPost_ret (v:= .agg #[.bool s,.slice u d e,.slice u' d' M]) (by simp [results,Tryz.results205,go_sem, *]) rfl ?_;exact⟨_,rfl,g9,u,d,e,u',d',M,by rw[← ec.out],ca,cb⟩
theorem q6Q:∃ i,Tryz.prog.info? 29=some i∧i.zero=some (.agg #[.bool false,.slice none 0 0,.slice none 0 0])∧i.size=3∧i.bytes≤1000:=by
 have h:(Tryz.prog.info? 29).map (fun i=>(i.zero,i.size,decide (i.bytes≤1000)))=some (some (.agg #[.bool false,.slice none 0 0,.slice none 0 0]),3,true):=by kernel_rfl
 obtain⟨i,hi,A⟩:=cQ.1 h;simp only[Prod.mk.injEq] at A;exact⟨i,hi,A.1,A.2.1,of_decide_eq_true A.2.2⟩
theorem lu {w:World} {b:Nat} {l:List Value} (r:Rec w b l):∀ (j:Nat) (v:Value),l[j]? =some v→w.cell? ((⟨b,0,none⟩:Addr).add j)=some v:=by
 intro j v hv;have A:(⟨b,0,none⟩:Addr).add j=⟨b,j,none⟩:=by unfold Addr.add;split<;>simp_all
 rw[A,r.cell];exact hv
/-- A full slice of two fractions; what one more makes of it. -/
theorem q47 (w:World) (B A:Nat) (u1 u2 u3 u4 u5 u6 u7 u8 u9:Value) (h:Rec w B [u1,u2,u3,u4,u5,u6]) (J:Rec w A [u7,u8,u9]):
  ∃ c w',(Builtin.append_ #[211,211] 211 #[.slice (some ⟨B,0,none⟩) 2 2,.slice (some ⟨A,0,none⟩) 1 1]).run Tryz.prog w= .ok (.slice (some ⟨w.heap.size,0,none⟩) 3 c) w'∧G w w'∧
   w.heap.size<w'.heap.size∧∀ j v,[u1,u2,u3,u4,u5,u6,u7,u8,u9][j]? =some v→w'.cell? ⟨w.heap.size,j,none⟩=some v:=by
 obtain⟨i,hi,M,D,E⟩:=q6Q;have K:=run_append_grow (P:=Tryz.prog) w 211 211 29 i _ Tryz.underlying211 hi M ⟨B,0,none⟩ 2 2 [u1,u2,u3,u4,u5,u6] (by rw[D];rfl) (lu h) ⟨A,0,none⟩ 1 1 [u7,u8,u9] (by rw[D];rfl) (lu J) eX eX (growslice_fits eX eX);refine⟨_,_,K,(ad _).drew.alloc _,by simp,fun j v hv=> ?_⟩;have I:j<9:=by
  have:=(bM.1 hv).1;simpa using this
 have C:w.drew.heap.size=w.heap.size:=rfl;rw[← C];have F:=heap_alloc_new w.drew (.cells ([u1,u2,u3,u4,u5,u6].toArray++[u7,u8,u9].toArray++Builtin.zeroCells (Value.agg #[.bool false,.slice none 0 0,.slice none 0 0]).cells (grownCap w (2+1) 2 29-(2+1))) 29);simp only[World.cell?,F];rw[Array.getElem?_append_left (by simpa using I)];simpa using hv
/-- A slice of two fractions that fills a block. -/
def QS2 (w:World) (v:Value) (p q:Rat):Prop:=∃ B t1 A F c1 a2 I C t2 a3 J D a4 K E,v= .slice (some ⟨B,0,none⟩) 2 2∧Rec w B [.bool t1,.slice A F c1,.slice a2 I C,.bool t2,.slice a3 J D,.slice a4 K E]∧
 QIs w (.agg #[.bool t1,.slice A F c1,.slice a2 I C]) p∧QIs w (.agg #[.bool t2,.slice a3 J D,.slice a4 K E]) q
theorem QS2.G {w w':World} {v:Value} {p q:Rat} (h:QS2 w v p q) (g:G w w'):QS2 w' v p q:=by
 obtain⟨B,t1,A,F,c1,a2,I,C,t2,a3,J,D,a4,K,E,e,h1,h2,h3⟩:=h;exact⟨B,t1,A,F,c1,a2,I,C,t2,a3,J,D,a4,K,E,e,h1.G g,h2.G g,h3.G g⟩
theorem q3k {w:World} {A:Nat} {t1 t2 a1 k1 c1 a2 k2 c2 a3 k3 c3 a4 k4 c4} {p q:Rat} (h1:Rec w A [.bool t1,.slice a1 k1 c1,.slice a2 k2 c2,.bool t2,.slice a3 k3 c3,.slice a4 k4 c4]) (h2:QIs w (.agg #[.bool t1,.slice a1 k1 c1,.slice a2 k2 c2]) p) (h3:QIs w (.agg #[.bool t2,.slice a3 k3 c3,.slice a4 k4 c4]) q):QSl w A [p,q]:=by
 refine⟨h1.lt,fun i hi=> ?_⟩;have hi2:i<2:=hi;rcases(show i=0∨i=1 by omega) with rfl|rfl
 ·exact⟨t1,a1,k1,c1,a2,k2,c2,h1.cell 0,h1.cell 1,h1.cell 2,h2⟩
 ·exact⟨t2,a3,k3,c3,a4,k4,c4,h1.cell 3,h1.cell 4,h1.cell 5,h3⟩
/-- What stands behind the first power. -/
def powT (a b:Rat) (n:Nat):List Rat:=if 0<n∧has0 a b=true then [b^n,0] else [b^n]
theorem mI {a b:Rat} {n:Nat} (E:n≤12) (C:QB a 33) (D:QB b 33):∀ y∈a^n::powT a b n,QB y 400:=by
 have h1:=(nF C n).mono (show 33*n+1≤400 by omega);have h2:=(nF D n).mono (show 33*n+1≤400 by omega);have B:QB 0 1:=by unfold QB;decide
 have h3:QB 0 400:=B.mono (show 1≤400 by decide);intro y A;unfold powT at A;split at A
 ·simp only[cP,eA,or_false] at A;rcases A with rfl|rfl|rfl
  ·exact h1
  ·exact h2
  ·exact h3
 ·simp only[cP,eA,or_false] at A;rcases A with rfl|rfl<;>assumption
set_option maxRecDepth 30000 in
set_option maxHeartbeats 4000000 in
theorem q4r (w:World) (v:Value) (a b:Rat) (n:Nat) (hT:Tab w) (hn:n≤12) (hv:ES w v a b) (qa:QB a 33) (qb:QB b 33):
  Calls Tryz.prog 132 #[v,.int .i64 (n:Int)] w (kj w (minL (a^n) (powT a b n)) (maxL (a^n) (powT a b n))):=by
 have HZ:Hid (∀ w1,G w w1→_):=fun w1 g=>oC w1 v a b (hv.G g);obtain⟨a1,k1,c1,a2,k2,c2,a3,k3,c3,a4,k4,c4,rfl,ho,hp⟩:=hv;have hh:Hid (∀ w1 bn,G w w1→Rec w1 bn [.int .i64 (n:Int)]→_):=fun w1 bn g h=>q3b w1 _ a n bn (hT.G g) hn (ho.G g) qa h;have hj:Hid (∀ w1 bn,G w w1→Rec w1 bn [.int .i64 (n:Int)]→_):=fun w1 bn g h=>q3b w1 _ b n bn (hT.G g) hn (hp.G g) qb h;have hq:=mI hn qa qb;have ag:Hid (∀ (w1:World) (bq c0:Nat),QSl w1 bq (a^n::powT a b n)→Calls Tryz.prog 206 #[.slice (some ⟨bq,0,none⟩) (powT a b n).length.succ c0] w1 (kj w1 (minL (a^n) (powT a b n)) (maxL (a^n) (powT a b n)))):=fun w1 bq c0 h=>
  qw w1 bq _ _ _ c0 400 eX rfl (by unfold powT;split<;>simp) h hq
 have HL:Hid (powT a b n=if 0<n∧has0 a b=true then [b^n,0] else [b^n]):=by show _=_;rfl
 have HN:Hid (n≤12):=hn;clear ho hp hq hT qa qb hn;generalize minL (a^n) (powT a b n)=x at *;generalize maxL (a^n) (powT a b n)=y at *;generalize powT a b n=L at *;generalize a^n=p at *;generalize b^n=q at *;generalize has0 a b=z at *;generalize decide (a.num<0)=t1 at *;generalize decide (b.num<0)=t2 at *;go_enter Tryz.func132,Tryz.ntmps132;go_wp2_with fail;obtain⟨w0,hr,g0,ii,R0,R1,R2⟩:=gf w [.bool t1,.slice a1 k1 c1,.slice a2 k2 c2,.bool t2,.slice a3 k3 c3,.slice a4 k4 c4] [.int .i64 (n:Int)] [.bool false,.slice none 0 0,.slice none 0 0,.bool false,.slice none 0 0,.slice none 0 0] 136 3 136;rw[hr];clear hr;refine jU 10 0 [.is (.func (.func 205) #[] #[.pointer (some ⟨w.heap.size+1,0,none⟩)]),.is (.pointer (some ⟨w.heap.size,0,none⟩)),.is (.agg #[.bool t1,.slice a1 k1 c1,.slice a2 k2 c2]),.any (fun v w'=>QIs w' v (p)),.is (.func (.func 205) #[] #[.pointer (some ⟨w.heap.size+1,0,none⟩)]),.is (.pointer (some ⟨w.heap.size,3,none⟩)),.is (.agg #[.bool t2,.slice a3 k3 c3,.slice a4 k4 c4]),.any (fun v w'=>QIs w' v (q)),.any (fun v w'=>QS2 w' v p q),.any (fun v w'=>QS2 w' v p q)] [some 8,some 9,some 10,some 11,some 12,some 13,some 14,some 15,some 16,some 6] ?_;intro v3 v7 v8 v9 A hA;simp only[fG,Act.put,aq,ay,az] at hA;subst hA;refine⟨?_,?_⟩
 ·skip
  refine aa rfl ?b0 (aa rfl ?b1 (aa rfl ?b3 (aa rfl ?b5 (aa rfl ?b4 (aa rfl ?o1_5 (aa rfl ?o1_6 (aa rfl ?b6 (aa rfl ?b7 (aa rfl ?b8 (bN))))))))))
  case b0|b1|b4|o1_5=>
   exact jX
  case b3|o1_6=>
   intro W hW hD K hK;clear hD;have Y:=cY (aw R0.out hW);have gg:=Y.1;have gm:=Y.2.1;have ha:=Y.2.2.1;have hd:=Y.2.2.2.1;have he:=Y.2.2.2.2.1;have hf:=Y.2.2.2.2.2.1;clear Y;go_simp;exact hK.out _ _ ⟨_,rfl,ad _,rfl⟩
  ·intro W hW hD K hK;have hc:=hi9 (hh.out W (w.heap.size+1) (ab g0 hW) (aw R1.out hW));exact gY
  ·intro W hW hD K hK;have hc:=hi9 (hj.out W (w.heap.size+1) (ab g0 hW) (aw R1.out hW));exact gY
  ·intro W hW hD K hK;have h3:=gZ v3 3 hD;have h7:=gZ v7 7 hD;clear hD;have Y:=cY (aw R0.out hW);have gg:=Y.1;have gm:=Y.2.1;have ha:=Y.2.2.1;have hd:=Y.2.2.2.1;have he:=Y.2.2.2.2.1;have hf:=Y.2.2.2.2.2.1;clear Y;obtain⟨p1,p2,p3,p4,p5,p6,rfl,hw⟩:=gl h3;obtain⟨q1,q2,q3,q4,q5,q6,rfl,hx⟩:=gl h7;go_simp;exact hK.out _ _ ⟨_,rfl,(ad _).alloc _,_,_,_,_,_,_,_,_,_,_,_,_,_,_,_,rfl,Rec.new W [_,_,_,_,_,_] _,hw.G ((ad _).alloc _),hx.G ((ad _).alloc _)⟩
  ·intro W hW hD K hK;have h8:=gZ v8 8 hD;clear hD;go_simp;exact hK.out _ _ ⟨_,rfl,ad _,h8⟩
 intro w1 g1 hH;have h9:=jG v9 9 hH;clear hH;refine wpAny_done eZ ?_ _;obtain⟨bq,t5,a5,k5,c5,a6,k6,c6,t6,a7,k7,c7,a8,k8,c8,rfl,Z,d,hm⟩:=h9;have RQ:Hid (Rec w1 bq [.bool t5,.slice a5 k5 c5,.slice a6 k6 c6,.bool t6,.slice a7 k7 c7,.slice a8 k8 c8]):=Z;have ai:Hid (QIs w1 (.agg #[.bool t5,.slice a5 k5 c5,.slice a6 k6 c6]) p):=d;have al:Hid (QIs w1 (.agg #[.bool t6,.slice a7 k7 c7,.slice a8 k8 c8]) q):=hm;have ht:=ab g0 g1;clear Z d hm hh hj;by_cases bv:0<n
 ·have tn:decide (0<n)=true:=decide_eq_true bv;have gd:Hid (0<n):=bv;clear bv;obtain⟨j,k⟩:=q6o R1 (g1);obtain⟨bw,bz,ca,cb,cc,cd,ce,ci,cl,cr,bl,bm⟩:=cY (aw R0.out (g1));go_wp2_with fail;refine eW (HZ.out _ ht) ?_;rintro e w2 ⟨rfl,g2⟩;clear j k bw bz ca cb cc cd ce ci cl cr bl bm HZ R0 R1;cases z
  ·have hL:L=[q]:=by rw[HL.out,if_neg (fun h=>by cases h.2)]
   subst hL;clear HL tn gd;go_wp2_with fail;refine eW (ag.out w2 bq 2 (q3k (RQ.out.G g2) (ai.out.G g2) (al.out.G g2))) ?_;intro e w3 hs;obtain⟨v,rfl,g3,hv⟩:=hs;have g13:=ab g1 (ab g2 g3);clear ag RQ ai al g2 g3 g1;obtain⟨B,N,F,C,O,I,D,R,J,E,S,M,rfl,Z,d⟩:=hv;generalize decide ((x).num<0)=U at *;generalize decide ((y).num<0)=X at *;have am:Hid (QIs w3 (.agg #[.bool U,.slice B N F,.slice C O I]) (x)):=Z;have an:Hid (QIs w3 (.agg #[.bool X,.slice D R J,.slice E S M]) (y)):=d;clear Z d;obtain⟨em,ep,eu,ez,fa,fb,fh,fp,fr,fs,bs,bu⟩:=cY (aw R2.out ((g13)));have o:QIs _ _ (x):=ek (u1:= .bool U) (u2:= .slice B N F) (u3:= .slice C O I) (u4:= .bool X) (u5:= .slice D R J) (u6:= .slice E S M) am.out (aw R2.out (g13)) fm;have af:QIs _ _ (y):=ek (u1:= .bool U) (u2:= .slice B N F) (u3:= .slice C O I) (u4:= .bool X) (u5:= .slice D R J) (u6:= .slice E S M) an.out (aw R2.out (g13)) fm;go_wp2_with fail;have hT:Hid (Rec _ (w.heap.size+2) [.bool U,.slice B N F,.slice C O I,.bool X,.slice D R J,.slice E S M]):=Rec.set6 (aw R2.out (g13));have g9:=Rec.h6 hT.out (ab g0 g13) eX;generalize (World.setCell (World.setCell (World.setCell (World.setCell (World.setCell (World.setCell w3 ⟨w.heap.size+2,0,none⟩ (.bool U)) ⟨w.heap.size+2,1,none⟩ (.slice B N F)) ⟨w.heap.size+2,2,none⟩ (.slice C O I)) ⟨w.heap.size+2,3,none⟩ (.bool X)) ⟨w.heap.size+2,4,none⟩ (.slice D R J)) ⟨w.heap.size+2,5,none⟩ (.slice E S M))=w9 at *;obtain⟨cz,di,dl,dq,dr,ds,ea,eb,ec,ee,ap,bi⟩:=cY (aw hT.out ((ad _)))
   refine bodyPost_ret (v:= .agg #[.bool U,.slice B N F,.slice C O I,.bool X,.slice D R J,.slice E S M]) (by simp [results,Tryz.results132,go_sem, *]) rfl ?_;exact⟨_,rfl,g9,jy o af⟩
  ·have hL:L=[q,0]:=by rw[HL.out,if_pos ⟨gd.out,rfl⟩]
   subst hL;clear HL tn gd;have cs:Hid (∀ w5 bn,G w2 w5→Rec w5 bn [.bool false,.slice none 0 0,.slice none 0 0]→∃ c w',(Builtin.append_ #[211,211] 211 #[.slice (some ⟨bq,0,none⟩) 2 2,.slice (some ⟨bn,0,none⟩) 1 1]).run Tryz.prog w5= .ok (.slice (some ⟨w5.heap.size,0,none⟩) 3 c) w'∧G w5 w'∧QSl w' w5.heap.size [p,q,0]):=fun w5 bn g5 ia=>by
    obtain⟨c,w',e1,g6,hz,m⟩:=q47 w5 bq bn _ _ _ _ _ _ _ _ _ ((RQ.out.G g2).G g5) ia;have hl:=ab g2 (ab g5 g6);refine⟨c,w',e1,g6,hz,fun i hi=> ?_⟩;have ih:i<3:=hi;rcases(show i=0∨i=1∨i=2 by omega) with rfl|rfl|rfl
    ·exact⟨t5,a5,k5,c5,a6,k6,c6,m 0 _ rfl,m 1 _ rfl,m 2 _ rfl,ai.out.G hl⟩
    ·exact⟨t6,a7,k7,c7,a8,k8,c8,m 3 _ rfl,m 4 _ rfl,m 5 _ rfl,al.out.G hl⟩
    ·exact⟨false,none,0,0,none,0,0,m 6 _ rfl,m 7 _ rfl,m 8 _ rfl,pX w'⟩
   have g12:=ab g1 g2;have ib:w2.heap.size=w2.heap.size:=rfl;obtain⟨b2,hy⟩:∃ b,b=w2.heap.size:=⟨_,rfl⟩;clear RQ ai al g1 g2 ib hy;go_wp2_with (at_builtin;obtain⟨c9,w9,fv,g9,hg⟩:=cs.out (w2.alloc (.cells #[.bool false,.slice none 0 0,.slice none 0 0] 29)) w2.heap.size ((ad _).alloc _) (Rec.new w2 [.bool false,.slice none 0 0,.slice none 0 0] 29);refine nX _ rfl (.tmp 23) (.tmp 25) 211 rfl _ _ rfl rfl fv ?_);have ga:(w2.alloc (.cells #[.bool false,.slice none 0 0,.slice none 0 0] 29)).heap.size=w2.heap.size+1:=by simp
   rw[ga] at hg;have hk:Hid (QSl w9 (w2.heap.size+1) [p,q,0]):=hg;clear ga;have g19:=ab (et g12 (.cells #[.bool false,.slice none 0 0,.slice none 0 0] 29)) g9;clear hg cs fv g9 g12;refine eW (ag.out w9 _ c9 hk.out) ?_;intro e w3 hs;obtain⟨v,rfl,g3,hv⟩:=hs;have g13:=ab g19 g3;clear ag hk g19 g3;obtain⟨B,N,F,C,O,I,D,R,J,E,S,M,rfl,Z,d⟩:=hv;generalize decide ((x).num<0)=U at *;generalize decide ((y).num<0)=X at *;have am:Hid (QIs w3 (.agg #[.bool U,.slice B N F,.slice C O I]) (x)):=Z;have an:Hid (QIs w3 (.agg #[.bool X,.slice D R J,.slice E S M]) (y)):=d;clear Z d;obtain⟨em,ep,eu,ez,fa,fb,fh,fp,fr,fs,bs,bu⟩:=cY (aw R2.out ((g13)));have o:QIs _ _ (x):=ek (u1:= .bool U) (u2:= .slice B N F) (u3:= .slice C O I) (u4:= .bool X) (u5:= .slice D R J) (u6:= .slice E S M) am.out (aw R2.out (g13)) fm;have af:QIs _ _ (y):=ek (u1:= .bool U) (u2:= .slice B N F) (u3:= .slice C O I) (u4:= .bool X) (u5:= .slice D R J) (u6:= .slice E S M) an.out (aw R2.out (g13)) fm;go_wp2_with fail;have hT:Hid (Rec _ (w.heap.size+2) [.bool U,.slice B N F,.slice C O I,.bool X,.slice D R J,.slice E S M]):=Rec.set6 (aw R2.out (g13));have g9:=Rec.h6 hT.out (ab g0 g13) eX;generalize (World.setCell (World.setCell (World.setCell (World.setCell (World.setCell (World.setCell w3 ⟨w.heap.size+2,0,none⟩ (.bool U)) ⟨w.heap.size+2,1,none⟩ (.slice B N F)) ⟨w.heap.size+2,2,none⟩ (.slice C O I)) ⟨w.heap.size+2,3,none⟩ (.bool X)) ⟨w.heap.size+2,4,none⟩ (.slice D R J)) ⟨w.heap.size+2,5,none⟩ (.slice E S M))=w9 at *
   obtain⟨cz,di,dl,dq,dr,ds,ea,eb,ec,ee,ap,bi⟩:=cY (aw hT.out ((ad _)));refine bodyPost_ret (v:= .agg #[.bool U,.slice B N F,.slice C O I,.bool X,.slice D R J,.slice E S M]) (by simp [results,Tryz.results132,go_sem, *]) rfl ?_;exact⟨_,rfl,g9,jy o af⟩
 ·obtain rfl:n=0:=by omega
  have hL:L=[q]:=by rw[HL.out,if_neg (fun h=>bv h.1)]
  subst hL;clear HL bv HZ;obtain⟨j,k⟩:=q6o R1 (g1);go_wp2_with fail;clear j k R0 R1;refine eW (ag.out w1 bq 2 (q3k RQ.out ai.out al.out)) ?_;intro e w3 hs;obtain⟨v,rfl,g3,hv⟩:=hs;have g13:=ab g1 g3;clear ag RQ ai al g3 g1;obtain⟨B,N,F,C,O,I,D,R,J,E,S,M,rfl,Z,d⟩:=hv;generalize decide ((x).num<0)=U at *;generalize decide ((y).num<0)=X at *;have am:Hid (QIs w3 (.agg #[.bool U,.slice B N F,.slice C O I]) (x)):=Z;have an:Hid (QIs w3 (.agg #[.bool X,.slice D R J,.slice E S M]) (y)):=d;clear Z d;obtain⟨em,ep,eu,ez,fa,fb,fh,fp,fr,fs,bs,bu⟩:=cY (aw R2.out ((g13)));have o:QIs _ _ (x):=ek (u1:= .bool U) (u2:= .slice B N F) (u3:= .slice C O I) (u4:= .bool X) (u5:= .slice D R J) (u6:= .slice E S M) am.out (aw R2.out (g13)) fm;have af:QIs _ _ (y):=ek (u1:= .bool U) (u2:= .slice B N F) (u3:= .slice C O I) (u4:= .bool X) (u5:= .slice D R J) (u6:= .slice E S M) an.out (aw R2.out (g13)) fm;go_wp2_with fail;have hT:Hid (Rec _ (w.heap.size+2) [.bool U,.slice B N F,.slice C O I,.bool X,.slice D R J,.slice E S M]):=Rec.set6 (aw R2.out (g13));have g9:=Rec.h6 hT.out (ab g0 g13) eX;generalize (World.setCell (World.setCell (World.setCell (World.setCell (World.setCell (World.setCell w3 ⟨w.heap.size+2,0,none⟩ (.bool U)) ⟨w.heap.size+2,1,none⟩ (.slice B N F)) ⟨w.heap.size+2,2,none⟩ (.slice C O I)) ⟨w.heap.size+2,3,none⟩ (.bool X)) ⟨w.heap.size+2,4,none⟩ (.slice D R J)) ⟨w.heap.size+2,5,none⟩ (.slice E S M))=w9 at *;obtain⟨cz,di,dl,dq,dr,ds,ea,eb,ec,ee,ap,bi⟩:=cY (aw hT.out ((ad _)))
  refine bodyPost_ret (v:= .agg #[.bool U,.slice B N F,.slice C O I,.bool X,.slice D R J,.slice E S M]) (by simp [results,Tryz.results132,go_sem, *]) rfl ?_;exact⟨_,rfl,g9,jy o af⟩
attribute [local go_sem] fu
def PSV (w:World) (v:Value) (n:Nat) (l:List Rat):Prop:=∃ A,v= .slice (some ⟨A,0,none⟩) n n∧PSL w A l
theorem PSV.G {w w':World} {v:Value} {n:Nat} {l:List Rat} (h:PSV w v n l) (g:G w w'):PSV w' v n l:=by
 obtain⟨A,e,h⟩:=h;exact⟨A,e,h.G g⟩
theorem rk {w:World} {e:TypeId} {B C D E:Nat} {p q r s:Rat} (h1:PR w (.pointer (some ⟨B,0,none⟩)) p) (h2:PR w (.pointer (some ⟨C,0,none⟩)) q) (h3:PR w (.pointer (some ⟨D,0,none⟩)) r) (F:PR w (.pointer (some ⟨E,0,none⟩)) s):
  PSL (w.alloc (.cells #[.pointer (some ⟨B,0,none⟩),.pointer (some ⟨C,0,none⟩),.pointer (some ⟨D,0,none⟩),.pointer (some ⟨E,0,none⟩)] e)) w.heap.size [p,q,r,s]:=by
 have A:=Rec.new w [.pointer (some ⟨B,0,none⟩),.pointer (some ⟨C,0,none⟩),.pointer (some ⟨D,0,none⟩),.pointer (some ⟨E,0,none⟩)] e;have g:=(ad w).alloc (.cells #[.pointer (some ⟨B,0,none⟩),.pointer (some ⟨C,0,none⟩),.pointer (some ⟨D,0,none⟩),.pointer (some ⟨E,0,none⟩)] e);refine⟨A.lt,fun i hi=> ?_⟩;have I:i<4:=hi;rcases(show i=0∨i=1∨i=2∨i=3 by omega) with rfl|rfl|rfl|rfl
 ·exact⟨B,A.cell 0,h1.G g⟩
 ·exact⟨C,A.cell 1,h2.G g⟩
 ·exact⟨D,A.cell 2,h3.G g⟩
 ·exact⟨E,A.cell 3,F.G g⟩
set_option maxRecDepth 30000 in
set_option maxHeartbeats 4000000 in
theorem q0f (w:World) (v u:Value) (a b c d:Rat) (hv:EW w v a b) (hu:EW w u c d) (qa:QB a 80) (qb:QB b 80) (qc:QB c 80) (qd:QB d 80):
  Calls Tryz.prog 125 #[v,u] w (jK w (minL (a*c) [a*d,b*c,b*d]) (maxL (a*c) [a*d,b*c,b*d])):=by
 obtain⟨a1,a2,rfl,O,R⟩:=hv;obtain⟨a3,a4,rfl,M,N⟩:=hu;have X:Hid (∀ w1,G w w1→_):=fun w1 g=>nC w1 _ _ a c 80 eX qa qc (O.G g) (M.G g);have Y:Hid (∀ w1,G w w1→_):=fun w1 g=>nC w1 _ _ a d 80 eX qa qd (O.G g) (N.G g);have Z:Hid (∀ w1,G w w1→_):=fun w1 g=>nC w1 _ _ b c 80 eX qb qc (R.G g) (M.G g);have i:Hid (∀ w1,G w w1→_):=fun w1 g=>nC w1 _ _ b d 80 eX qb qd (R.G g) (N.G g);have q1:=iU qa qc;have q2:=iU qa qd;have q3:=iU qb qc;have q4:=iU qb qd;clear O R M N qa qb qc qd;generalize a*c=p at *;generalize a*d=q at *;generalize b*c=r at *;generalize b*d=s at *;have U:Hid (∀ w1 S,PSL w1 S [p,q,r,s]→Calls Tryz.prog 127 #[.slice (some ⟨S,0,none⟩) 4 4] w1 (jK w1 (minL p [q,r,s]) (maxL p [q,r,s]))):=fun w1 S h=>sC w1 S p [q,r,s] 3 4 (80+80) eX rfl eX eX eX h (qb4 q1 q2 q3 q4);clear q1 q2 q3 q4;generalize minL p [q,r,s]=x at *;generalize maxL p [q,r,s]=y at *;go_enter Tryz.func125,Tryz.ntmps125;go_wp2_with fail;obtain⟨w0,am,g0,cl,R0,R1,R2⟩:=gf w [.pointer (some ⟨a1,0,none⟩),.pointer (some ⟨a2,0,none⟩)] [.pointer (some ⟨a3,0,none⟩),.pointer (some ⟨a4,0,none⟩)] [.pointer none,.pointer none] 139 139 139;rw[am];clear am
 refine jU 22 1 [.is (.pointer (some ⟨w.heap.size,0,none⟩)),.is (.pointer (some ⟨a1,0,none⟩)),.is (.pointer (some ⟨w.heap.size+1,0,none⟩)),.is (.pointer (some ⟨a3,0,none⟩)),.any (fun v w'=>PR w' v p),.is (.pointer (some ⟨w.heap.size,0,none⟩)),.is (.pointer (some ⟨a1,0,none⟩)),.is (.pointer (some ⟨w.heap.size+1,1,none⟩)),.is (.pointer (some ⟨a4,0,none⟩)),.any (fun v w'=>PR w' v q),.is (.pointer (some ⟨w.heap.size,1,none⟩)),.is (.pointer (some ⟨a2,0,none⟩)),.is (.pointer (some ⟨w.heap.size+1,0,none⟩)),.is (.pointer (some ⟨a3,0,none⟩)),.any (fun v w'=>PR w' v r),.is (.pointer (some ⟨w.heap.size,1,none⟩)),.is (.pointer (some ⟨a2,0,none⟩)),.is (.pointer (some ⟨w.heap.size+1,1,none⟩)),.is (.pointer (some ⟨a4,0,none⟩)),.any (fun v w'=>PR w' v s),.any (fun v w'=>PSV w' v 4 [p,q,r,s]),.any (fun v w'=>EW w' v x y)] [some 5,some 6,some 7,some 8,some 9,some 10,some 11,some 12,some 13,some 14,some 15,some 16,some 17,some 18,some 19,some 20,some 21,some 22,some 23,some 24,some 25,some 26] ?_;intro v4 v9 ca cb v20 v21 A hA;simp only[fG,Act.put,aq,ay,az] at hA;subst hA;refine⟨?_,?_⟩
 ·skip
  refine aa rfl ?b3 (aa rfl ?b4 (aa rfl ?b5 (aa rfl ?b6 (aa rfl ?c3 (aa rfl ?b7 (aa rfl ?b8 (aa rfl ?bA (aa rfl ?bB (aa rfl ?c4 (aa rfl ?a6 (aa rfl ?a7 (aa rfl ?a8 (aa rfl ?b0 (aa rfl ?bT (aa rfl ?b1 (aa rfl ?b2 (aa rfl ?o1_17 (aa rfl ?o1_18 (aa rfl ?bY (aa rfl ?c0 (aa rfl ?c2 (bN))))))))))))))))))))))
  case b3|b5|b7|bA|a6|a8|b1|o1_17=>
   exact jX
  case b4|b6|b8|bB|a7|b0|b2|o1_18=>
   intro W B hD K hK;clear hD;have ⟨E,F⟩:=rc29 R0 B;have ⟨I,J⟩:=rc29 R1 B;go_simp;exact hK.out _ _ ⟨_,rfl,ad _,rfl⟩
  ·intro W B hD K hK;have hc:=hi9 (X.out W (ab g0 B));exact gY
  ·intro W B hD K hK;have hc:=hi9 (Y.out W (ab g0 B));exact gY
  ·intro W B hD K hK;have hc:=hi9 (Z.out W (ab g0 B));exact gY
  ·intro W B hD K hK;have hc:=hi9 (i.out W (ab g0 B));exact gY
  ·intro W B hD K hK;have h4:=gZ v4 4 hD;have h9:=gZ v9 9 hD;have bl:=gZ ca 14 hD;have bm:=gZ cb 19 hD;clear hD;have ⟨E,F⟩:=rc29 R0 B;have ⟨I,J⟩:=rc29 R1 B;obtain⟨p1,rfl,bi⟩:=ik h4;obtain⟨p2,rfl,bn⟩:=ik h9;obtain⟨p3,rfl,bv⟩:=ik bl;obtain⟨p4,rfl,bw⟩:=ik bm;go_simp;exact hK.out _ _ ⟨_,rfl,(ad _).alloc _,_,rfl,rk bi bn bv bw⟩
  ·intro W B hD K hK;have bs:=gZ v20 20 hD;clear hD;have ⟨E,F⟩:=rc29 R0 B;have ⟨I,J⟩:=rc29 R1 B;obtain⟨S,rfl,hq⟩:=bs;go_simp;go_wp2_with (go_at_call 127;refine eW (U.out W S hq) ?_;intro e w9 hs;obtain⟨u9,rfl,g9,bz⟩:=hs);exact hK.out _ _ ⟨_,rfl,g9,bz⟩
 intro w1 g1 hH;have bu:=jG v21 21 hH;clear hH;clear X Y Z i U R0 R1;obtain⟨C,D,rfl,ai,al⟩:=bu;have an:Hid (PR w1 (.pointer (some ⟨C,0,none⟩)) (x)):=ai;have ap:Hid (PR w1 (.pointer (some ⟨D,0,none⟩)) (y)):=al;clear ai al;obtain⟨m,o,af,ag⟩:=fe R2 (g1);refine wpAny_ready (rs:=[22]) eZ fX ?_;refine AllReady.cons rfl (fun K hK=> ?_) AllReady.nil;go_simp;refine hK _ _ ?_;clear hK K m o af ag;refine wpAny_done eZ ?_ _;have j:PR _ _ (x):=fI (u1:= .pointer (some ⟨C,0,none⟩)) (u2:= .pointer (some ⟨D,0,none⟩)) an.out (aw R2.out (g1)) (bS _) (bS _);have k:PR _ _ (y):=fI (u1:= .pointer (some ⟨C,0,none⟩)) (u2:= .pointer (some ⟨D,0,none⟩)) ap.out (aw R2.out (g1)) (bS _) (bS _);go_wp2_with fail;have hT:Hid (Rec _ (w.heap.size+2) [.pointer (some ⟨C,0,none⟩),.pointer (some ⟨D,0,none⟩)]):=bE (aw R2.out (g1));have g9:=dQ hT.out (ab g0 g1) eX;generalize (World.setCell (World.setCell w1 ⟨w.heap.size+2,0,none⟩ (.pointer (some ⟨C,0,none⟩))) ⟨w.heap.size+2,1,none⟩ (.pointer (some ⟨D,0,none⟩)))=w9 at *;obtain⟨cc,cd,ce,ci⟩:=fe hT (((ad _)));refine bodyPost_ret (v:= .agg #[.pointer (some ⟨C,0,none⟩),.pointer (some ⟨D,0,none⟩)]) (by simp [results,Tryz.results125,go_sem, *]) rfl ?_;exact⟨_,rfl,g9,_,_,rfl,j,k⟩
set_option maxRecDepth 10000 in
theorem rj (w:World) (u:Value) (a:Rat) (n:Nat) (d:n≤12) (K:QB a 33) (hu:PR w u a):Calls Tryz.prog 207 #[u,.int .i64 (n:Int)] w (RetP w (a^n)):=by
 have A:Hid (∀ w1:World,Calls Tryz.prog 208 #[.int .i64 1] w1 (RetP w1 1)):=fun w1=>rl w1 1 eX;have U:Hid (∀ (w1:World) (D:Value) (i:Nat),G w w1→i<12→PR w1 D (a^i)→Calls Tryz.prog 204 #[D,u] w1 (RetP w1 (a^(i+1)))):=fun w1 D i g hi k=>by
  rw[Rat.pow_succ];exact nC w1 D u _ a 400 eX ((nF K i).mono eX) (K.mono eX) k (hu.G g)
 clear K hu;go_enter Tryz.func207,Tryz.ntmps207;go_wp2_with fail;refine eW (A.out w) ?_;intro e w1 J;obtain⟨v,rfl,g1,hv⟩:=J;have O:Hid (PR w1 v (a^0)):=by show PR _ _ _;rw[Rat.pow_zero];exact hv
 clear hv A;go_wp2_with fail
 go_loopw [1,5] (fun M Z wr=>∃ k:Nat,k≤n∧M= .int .i64 ((n:Int)-k)∧PR wr Z (a^k)∧G w wr) (fun M _ _=>(intOf M).toNat)
 case atStart=>exact⟨0,by omega,by simp,O.out,g1⟩
 case round=>
  obtain⟨k,c,rfl,R,C⟩:=hrel;have F:Hid (PR wr u5 (a^k)):=R;clear R O g1;by_cases W:k<n
  ·have Y:((0:Int)<(n:Int)-k)=True:=eq_true eX;have X:IntKind.i64.wrap ((n:Int)-k-1)=(n:Int)-(k+1:Nat):=by rw[IntKind.wrap_i64];omega
   have N:=hi9 (U.out wr _ k C eX F.out);go_wp2_with fail;refine eW N.out ?_;intro e S J;obtain⟨v3,rfl,g3,B⟩:=J;have I:Hid (PR S v3 (a^(k+1))):=B;have E:Hid (G w S):=ab C g3;clear B N F C g3;go_wp2_with fail
   go_roundw
   case rel=>exact⟨k+1,by omega,by congr 1,I.out,E.out⟩
   case measure=>simp only[intOf];omega
  ·obtain rfl:k=n:=by omega
   have Y:((0:Int)<(k:Int)-k)=False:=eq_false eX;go_wp2_with fail;go_ret;exact⟨_,rfl,C,F.out⟩
end Go.Proofs.YtohcneeihdkfgaaGreatDoor.EN
namespace Go.Proofs.YtohcneeihdkfgaaGreatDoor.EN
open Go.ChangeShapes Go.WideShapes Go.ChangeAt Go.RowKit
attribute [local go_sem] fu
theorem q6P:∃ i,Tryz.prog.info? 33=some i∧i.zero=some (.pointer none)∧i.size=1∧i.bytes≤1000:=by
 have h:(Tryz.prog.info? 33).map (fun i=>(i.zero,i.size,decide (i.bytes≤1000)))=some (some (.pointer none),1,true):=by kernel_rfl
 obtain⟨i,hi,A⟩:=cQ.1 h;simp only[Prod.mk.injEq] at A;exact⟨i,hi,A.1,A.2.1,of_decide_eq_true A.2.2⟩
theorem q46 (w:World) (B A:Nat) (u1 u2 u3:Value) (h:Rec w B [u1,u2]) (J:Rec w A [u3]):
  ∃ c w',(Builtin.append_ #[209,209] 209 #[.slice (some ⟨B,0,none⟩) 2 2,.slice (some ⟨A,0,none⟩) 1 1]).run Tryz.prog w= .ok (.slice (some ⟨w.heap.size,0,none⟩) 3 c) w'∧3≤c∧G w w'∧
   w.heap.size<w'.heap.size∧∀ j v,[u1,u2,u3][j]? =some v→w'.cell? ⟨w.heap.size,j,none⟩=some v:=by
 obtain⟨i,hi,M,D,E⟩:=q6P;have K:=run_append_grow (P:=Tryz.prog) w 209 209 33 i _ Tryz.underlying209 hi M ⟨B,0,none⟩ 2 2 [u1,u2] (by rw[D];rfl) (lu h) ⟨A,0,none⟩ 1 1 [u3] (by rw[D];rfl) (lu J) eX eX (growslice_fits eX eX);refine⟨_,_,K,grownCap_ge w (2+1) 2 33,(ad _).drew.alloc _,by simp,fun j v hv=> ?_⟩;have I:j<3:=by
  have:=(bM.1 hv).1;simpa using this
 have C:w.drew.heap.size=w.heap.size:=rfl;rw[← C];have F:=heap_alloc_new w.drew (.cells ([u1,u2].toArray++[u3].toArray++Builtin.zeroCells (Value.pointer none).cells (grownCap w (2+1) 2 33-(2+1))) 33);simp only[World.cell?,F];rw[Array.getElem?_append_left (by simpa using I)];simpa using hv
/-- A slice of pointers to two ratios that fills a block. -/
def PS2 (w:World) (v:Value) (p q:Rat):Prop:=∃ A B C,v= .slice (some ⟨A,0,none⟩) 2 2∧Rec w A [.pointer (some ⟨B,0,none⟩),.pointer (some ⟨C,0,none⟩)]∧PR w (.pointer (some ⟨B,0,none⟩)) p∧PR w (.pointer (some ⟨C,0,none⟩)) q
theorem PS2.G {w w':World} {v:Value} {p q:Rat} (h:PS2 w v p q) (g:G w w'):PS2 w' v p q:=by
 obtain⟨A,B,C,e,h1,h2,h3⟩:=h;exact⟨A,B,C,e,h1.G g,h2.G g,h3.G g⟩
theorem q3c {w:World} {C A B:Nat} {p q:Rat} (h1:Rec w C [.pointer (some ⟨A,0,none⟩),.pointer (some ⟨B,0,none⟩)]) (h2:PR w (.pointer (some ⟨A,0,none⟩)) p) (h3:PR w (.pointer (some ⟨B,0,none⟩)) q):PSL w C [p,q]:=by
 refine⟨h1.lt,fun i hi=> ?_⟩;have hi2:i<2:=hi;rcases(show i=0∨i=1 by omega) with rfl|rfl
 ·exact⟨A,h1.cell 0,h2⟩
 ·exact⟨B,h1.cell 1,h3⟩
set_option maxRecDepth 30000 in
set_option maxHeartbeats 4000000 in
theorem q0e (w:World) (v:Value) (a b:Rat) (n:Nat) (hn:n≤12) (hv:EW w v a b) (qa:QB a 33) (qb:QB b 33):
  Calls Tryz.prog 134 #[v,.int .i64 (n:Int)] w (jK w (minL (a^n) (powT a b n)) (maxL (a^n) (powT a b n))):=by
 have HZ:Hid (∀ w1,G w w1→_):=fun w1 g=>oO w1 v a b (hv.G g);have Z:Hid (∀ w1:World,Calls Tryz.prog 208 #[.int .i64 0] w1 (RetP w1 0)):=fun w1=>rl w1 0 eX;obtain⟨a1,a2,rfl,cr,cs⟩:=hv;have ca:Hid (∀ w1,G w w1→_):=fun w1 g=>rj w1 _ a n hn qa (cr.G g);have cb:Hid (∀ w1,G w w1→_):=fun w1 g=>rj w1 _ b n hn qb (cs.G g);have hq:=mI hn qa qb;have J:Hid (∀ (w1:World) (Y c0:Nat),(powT a b n).length+1≤c0→PSL w1 Y (a^n::powT a b n)→Calls Tryz.prog 127 #[.slice (some ⟨Y,0,none⟩) ((powT a b n).length+1) c0] w1 (jK w1 (minL (a^n) (powT a b n)) (maxL (a^n) (powT a b n)))):=fun w1 Y c0 hc h=>
  sC w1 Y _ _ _ c0 400 eX rfl (by unfold powT;split<;>simp) hc (by unfold powT at hc;split at hc<;>simp at hc<;>omega) h hq
 have HL:Hid (powT a b n=if 0<n∧has0 a b=true then [b^n,0] else [b^n]):=by show _=_;rfl
 have HN:Hid (n≤12):=hn;clear cr cs hq qa qb hn;generalize minL (a^n) (powT a b n)=x at *;generalize maxL (a^n) (powT a b n)=y at *;generalize powT a b n=L at *;generalize a^n=p at *;generalize b^n=q at *;generalize has0 a b=z at *;go_enter Tryz.func134,Tryz.ntmps134;go_wp2_with fail;obtain⟨w0,di,g0,em,R0,O⟩:=gF w [.pointer (some ⟨a1,0,none⟩),.pointer (some ⟨a2,0,none⟩)] [.pointer none,.pointer none] 139 139;rw[di];clear di;refine jU 10 0 [.is (.pointer (some ⟨w.heap.size,0,none⟩)),.is (.pointer (some ⟨a1,0,none⟩)),.is (.int .i64 (n:Int)),.any (fun v w'=>PR w' v p),.is (.pointer (some ⟨w.heap.size,1,none⟩)),.is (.pointer (some ⟨a2,0,none⟩)),.is (.int .i64 (n:Int)),.any (fun v w'=>PR w' v q),.any (fun v w'=>PS2 w' v p q),.any (fun v w'=>PS2 w' v p q)] [some 6,some 7,some 8,some 9,some 10,some 11,some 12,some 13,some 14,some 5] ?_;intro v3 v7 v8 v9 A hA;simp only[fG,Act.put,aq,ay,az] at hA;subst hA;refine⟨?_,?_⟩
 ·skip
  refine aa rfl ?a6 (aa rfl ?a7 (aa rfl ?a8 (aa rfl ?b1 (aa rfl ?b0 (aa rfl ?o1_5 (aa rfl ?o1_6 (aa rfl ?b2 (aa rfl ?b3 (aa rfl ?b4 (bN))))))))))
  case a6|a8|b0|o1_6=>
   exact jX
  case a7|o1_5=>
   intro W hW hD K hK;clear hD;have ⟨bu,bv⟩:=rc29 R0 hW;go_simp;exact hK.out _ _ ⟨_,rfl,ad _,rfl⟩
  ·intro W hW hD K hK;have hc:=hi9 (ca.out W (ab g0 hW));exact gY
  ·intro W hW hD K hK;have hc:=hi9 (cb.out W (ab g0 hW));exact gY
  ·intro W hW hD K hK;have h3:=gZ v3 3 hD;have h7:=gZ v7 7 hD;clear hD;have ⟨bu,bv⟩:=rc29 R0 hW;obtain⟨p1,rfl,dq⟩:=ik h3;obtain⟨p2,rfl,dr⟩:=ik h7;go_simp;exact hK.out _ _ ⟨_,rfl,(ad _).alloc _,_,_,_,rfl,Rec.new W [_,_] _,dq.G ((ad _).alloc _),dr.G ((ad _).alloc _)⟩
  ·intro W hW hD K hK;have h8:=gZ v8 8 hD;clear hD;go_simp;exact hK.out _ _ ⟨_,rfl,ad _,h8⟩
 intro w1 g1 hH;have h9:=jG v9 9 hH;clear hH;refine wpAny_done eZ ?_ _;obtain⟨Y,p1,p2,rfl,D,E,ci⟩:=h9;have RQ:Hid (Rec w1 Y [.pointer (some ⟨p1,0,none⟩),.pointer (some ⟨p2,0,none⟩)]):=D;have M:Hid (PR w1 (.pointer (some ⟨p1,0,none⟩)) p):=E;have N:Hid (PR w1 (.pointer (some ⟨p2,0,none⟩)) q):=ci;have dl:=ab g0 g1;clear D E ci ca cb;by_cases U:0<n
 ·have tn:decide (0<n)=true:=decide_eq_true U;have bs:Hid (0<n):=U;clear U;obtain⟨d,j,k,m⟩:=fe R0 (g1);go_wp2_with fail;refine eW (HZ.out _ dl) ?_;rintro e w2 ⟨rfl,g2⟩;clear d j k m HZ R0;cases z
  ·have hL:L=[q]:=by rw[HL.out,if_neg (fun h=>by cases h.2)]
   subst hL;clear HL tn bs Z;go_wp2_with fail;refine eW (J.out w2 Y 2 fX (q3c (RQ.out.G g2) (M.out.G g2) (N.out.G g2))) ?_;intro e X hs;obtain⟨v,rfl,g3,hv⟩:=hs;have g13:=ab g1 (ab g2 g3);clear J RQ M N g2 g3 g1;obtain⟨B,C,rfl,D,E⟩:=hv;have R:Hid (PR X (.pointer (some ⟨B,0,none⟩)) (x)):=D;have S:Hid (PR X (.pointer (some ⟨C,0,none⟩)) (y)):=E;clear D E;obtain⟨am,an,ap,bi⟩:=fe O (((g13)));have F:PR _ _ (x):=fI (u1:= .pointer (some ⟨B,0,none⟩)) (u2:= .pointer (some ⟨C,0,none⟩)) R.out (aw O.out (g13)) (bS _) (bS _);have I:PR _ _ (y):=fI (u1:= .pointer (some ⟨B,0,none⟩)) (u2:= .pointer (some ⟨C,0,none⟩)) S.out (aw O.out (g13)) (bS _) (bS _);go_wp2_with fail;have hT:Hid (Rec _ (w.heap.size+1) [.pointer (some ⟨B,0,none⟩),.pointer (some ⟨C,0,none⟩)]):=bE (aw O.out (g13));have g9:=dQ hT.out (ab g0 g13) eX;generalize (World.setCell (World.setCell X ⟨w.heap.size+1,0,none⟩ (.pointer (some ⟨B,0,none⟩))) ⟨w.heap.size+1,1,none⟩ (.pointer (some ⟨C,0,none⟩)))=w9 at *;obtain⟨af,ag,ai,al⟩:=fe hT (((ad _)));refine bodyPost_ret (v:= .agg #[.pointer (some ⟨B,0,none⟩),.pointer (some ⟨C,0,none⟩)]) (by simp [results,Tryz.results134,go_sem, *]) rfl ?_;exact⟨_,rfl,g9,_,_,rfl,F,I⟩
  ·have hL:L=[q,0]:=by rw[HL.out,if_pos ⟨bs.out,rfl⟩]
   subst hL;clear HL tn bs;go_wp2_with fail;refine eW (Z.out _) ?_;intro e w4 hs;obtain⟨v0,rfl,g4,cl⟩:=hs;obtain⟨p3,rfl,cz⟩:=ik cl;have cd:Hid (PR w4 (.pointer (some ⟨p3,0,none⟩)) 0):=cz;have g24:=ab g2 g4;clear cl cz Z;have o:Hid (∀ w5 bn,G w4 w5→Rec w5 bn [.pointer (some ⟨p3,0,none⟩)]→∃ c w',(Builtin.append_ #[209,209] 209 #[.slice (some ⟨Y,0,none⟩) 2 2,.slice (some ⟨bn,0,none⟩) 1 1]).run Tryz.prog w5= .ok (.slice (some ⟨w5.heap.size,0,none⟩) 3 c) w'∧3≤c∧G w5 w'∧PSL w' w5.heap.size [p,q,0]):=fun w5 bn g5 eb=>by
    obtain⟨c,w',e1,ds,g6,ea,bw⟩:=q46 w5 Y bn _ _ _ ((RQ.out.G g24).G g5) eb;have ce:=ab g24 (ab g5 g6);refine⟨c,w',e1,ds,g6,ea,fun i hi=> ?_⟩;have ee:i<3:=hi;rcases(show i=0∨i=1∨i=2 by omega) with rfl|rfl|rfl
    ·exact⟨p1,bw 0 _ rfl,M.out.G ce⟩
    ·exact⟨p2,bw 1 _ rfl,N.out.G ce⟩
    ·exact⟨p3,bw 2 _ rfl,cd.out.G (ab g5 g6)⟩
   have g14:=ab g1 g24;clear RQ M N cd g1 g2 g4 g24;go_wp2_with (at_builtin;obtain⟨c9,w9,bl,ec,g9,bz⟩:=o.out (w4.alloc (.cells #[.pointer (some ⟨p3,0,none⟩)] 33)) w4.heap.size ((ad _).alloc _) (Rec.new w4 [.pointer (some ⟨p3,0,none⟩)] 33);refine nX _ rfl (.tmp 21) (.tmp 23) 209 rfl _ _ rfl rfl bl ?_);have bm:(w4.alloc (.cells #[.pointer (some ⟨p3,0,none⟩)] 33)).heap.size=w4.heap.size+1:=by simp
   rw[bm] at bz;have cc:Hid (PSL w9 (w4.heap.size+1) [p,q,0]):=bz;have g19:=ab (et g14 (.cells #[.pointer (some ⟨p3,0,none⟩)] 33)) g9;clear bm bz o bl g9 g14;refine eW (J.out w9 _ c9 (by simp;omega) cc.out) ?_;intro e X hs;obtain⟨v,rfl,g3,hv⟩:=hs;have g13:=ab g19 g3;clear J cc g19 g3;obtain⟨B,C,rfl,D,E⟩:=hv;have R:Hid (PR X (.pointer (some ⟨B,0,none⟩)) (x)):=D;have S:Hid (PR X (.pointer (some ⟨C,0,none⟩)) (y)):=E;clear D E;obtain⟨am,an,ap,bi⟩:=fe O (((g13)));have F:PR _ _ (x):=fI (u1:= .pointer (some ⟨B,0,none⟩)) (u2:= .pointer (some ⟨C,0,none⟩)) R.out (aw O.out (g13)) (bS _) (bS _);have I:PR _ _ (y):=fI (u1:= .pointer (some ⟨B,0,none⟩)) (u2:= .pointer (some ⟨C,0,none⟩)) S.out (aw O.out (g13)) (bS _) (bS _);go_wp2_with fail;have hT:Hid (Rec _ (w.heap.size+1) [.pointer (some ⟨B,0,none⟩),.pointer (some ⟨C,0,none⟩)]):=bE (aw O.out (g13));have g9:=dQ hT.out (ab g0 g13) eX;generalize (World.setCell (World.setCell X ⟨w.heap.size+1,0,none⟩ (.pointer (some ⟨B,0,none⟩))) ⟨w.heap.size+1,1,none⟩ (.pointer (some ⟨C,0,none⟩)))=w9 at *;obtain⟨af,ag,ai,al⟩:=fe hT (((ad _)));refine bodyPost_ret (v:= .agg #[.pointer (some ⟨B,0,none⟩),.pointer (some ⟨C,0,none⟩)]) (by simp [results,Tryz.results134,go_sem, *]) rfl ?_;exact⟨_,rfl,g9,_,_,rfl,F,I⟩
 ·obtain rfl:n=0:=by omega
  have hL:L=[q]:=by rw[HL.out,if_neg (fun h=>U h.1)]
  subst hL;clear HL U HZ Z R0;go_wp2_with fail;refine eW (J.out w1 Y 2 fX (q3c RQ.out M.out N.out)) ?_;intro e X hs;obtain⟨v,rfl,g3,hv⟩:=hs;have g13:=ab g1 g3;clear J RQ M N g3 g1;obtain⟨B,C,rfl,D,E⟩:=hv;have R:Hid (PR X (.pointer (some ⟨B,0,none⟩)) (x)):=D;have S:Hid (PR X (.pointer (some ⟨C,0,none⟩)) (y)):=E;clear D E;obtain⟨am,an,ap,bi⟩:=fe O (((g13)));have F:PR _ _ (x):=fI (u1:= .pointer (some ⟨B,0,none⟩)) (u2:= .pointer (some ⟨C,0,none⟩)) R.out (aw O.out (g13)) (bS _) (bS _);have I:PR _ _ (y):=fI (u1:= .pointer (some ⟨B,0,none⟩)) (u2:= .pointer (some ⟨C,0,none⟩)) S.out (aw O.out (g13)) (bS _) (bS _);go_wp2_with fail;have hT:Hid (Rec _ (w.heap.size+1) [.pointer (some ⟨B,0,none⟩),.pointer (some ⟨C,0,none⟩)]):=bE (aw O.out (g13));have g9:=dQ hT.out (ab g0 g13) eX;generalize (World.setCell (World.setCell X ⟨w.heap.size+1,0,none⟩ (.pointer (some ⟨B,0,none⟩))) ⟨w.heap.size+1,1,none⟩ (.pointer (some ⟨C,0,none⟩)))=w9 at *;obtain⟨af,ag,ai,al⟩:=fe hT (((ad _)));refine bodyPost_ret (v:= .agg #[.pointer (some ⟨B,0,none⟩),.pointer (some ⟨C,0,none⟩)]) (by simp [results,Tryz.results134,go_sem, *]) rfl ?_;exact⟨_,rfl,g9,_,_,rfl,F,I⟩
set_option maxRecDepth 20000 in
set_option maxHeartbeats 2000000 in
theorem lh (w:World) (v:Value) (a b:Rat) (hv:EW w v a b) (ai:a≤b) (qa:QB a 400) (qb:QB b 400):
  Calls Tryz.prog 123 #[v] w (fR w (outF a b)):=by
 obtain⟨p1,p2,rfl,am,an⟩:=hv;have H1:Hid (∀ w1,G w w1→_):=fun w1 g=>rC w1 _ a 2 eX qa (am.G g);have H2:Hid (∀ w1,G w w1→_):=fun w1 g=>rC w1 _ b 3 eX qb (an.G g);have f1:=jl 2 a;have f2:=jl 3 b;have I:Hid (∀ w1,Calls Tryz.prog 44 #[.agg #[.float .f64 (rdF 2 a),.float .f64 (rdF 3 b)]] w1 _):=fun w1=>gQ w1 _ _ f1.1 f2.1;have he:spE (rdF 2 a) (rdF 3 b)=if fex (rdF 2 a)<2047∧fex (rdF 3 b)<2047 then 0 else 4:=by
  unfold spE;by_cases h:fex (rdF 2 a)<2047∧fex (rdF 3 b)<2047
  ·rw[if_pos h,if_pos h,if_neg (by rw[q1J ai h.1 h.2];decide)]
  ·rw[if_neg h,if_neg h]
 rw[he] at I;obtain⟨r,Y⟩:∃ r,r=outF a b:=⟨_,rfl⟩;rw[← Y];unfold outF at Y;clear am an qa qb f1 f2 ai he;generalize rdF 2 a=D at *;generalize rdF 3 b=U at *;have key:(r=(D,U,0)∧Hid (∀ w1,Calls Tryz.prog 44 #[.agg #[.float .f64 D,.float .f64 U]] w1 fun e w'=>e= .returned (.int .i64 0)∧G w1 w'))∨(r=(0,0,3)∧Hid (∀ w1,Calls Tryz.prog 44 #[.agg #[.float .f64 D,.float .f64 U]] w1 fun e w'=>e= .returned (.int .i64 4)∧G w1 w')):=by
  by_cases h:fex D<2047∧fex U<2047
  ·rw[if_pos h] at Y I;exact Or.inl ⟨Y,I⟩
  ·rw[if_neg h] at Y I;exact Or.inr ⟨Y,I⟩
 clear I Y;go_enter Tryz.func123,Tryz.ntmps123;go_wp2_with fail;obtain⟨w0,ap,g0,bs,R0,R1⟩:=gF w [.pointer (some ⟨p1,0,none⟩),.pointer (some ⟨p2,0,none⟩)] [.float .f64 0,.float .f64 0] 139 72;rw[ap];clear ap;refine jU 8 1 [.is (.pointer (some ⟨w.heap.size,0,none⟩)),.is (.pointer (some ⟨p1,0,none⟩)),.is (.float .f64 D),.is (.pointer (some ⟨w.heap.size,1,none⟩)),.is (.pointer (some ⟨p2,0,none⟩)),.is (.float .f64 U),.is (.agg #[.float .f64 D,.float .f64 U]),.any (fun v w'=>NewRec w0 w' v ([.float .f64 0,.float .f64 0]))] [some 5,some 6,some 7,some 8,some 9,some 10,some 11,some 4] ?_;intro v7 A hA;simp only[fG,Act.put,aq,ay,az] at hA;subst hA;refine⟨?_,?_⟩
 ·skip
  refine aa rfl ?a1 (aa rfl ?a6 (aa rfl ?a8 (aa rfl ?a7 (aa rfl ?o2_4 (aa rfl ?b0 (aa rfl ?o2_6 (aa rfl ?b1 (bN))))))))
  case a1|a7|o2_6=>
   exact jX
  case a6|o2_4=>
   intro W X hD K hK;clear hD;have ⟨bi,bl⟩:=rc29 R0 X;go_simp;exact hK.out _ _ ⟨_,rfl,ad _,rfl⟩
  ·intro W X hD K hK;have hc:=hi9 (H1.out W (ab g0 X));exact sj
  ·intro W X hD K hK;have hc:=hi9 (H2.out W (ab g0 X));exact sj
  ·intro W X hD K hK;clear hD;go_simp;exact hK.out _ _ ⟨_,rfl,(ad _).alloc _,_,rfl,X.size,Rec.new2 _ _ _ _⟩
 intro w1 g1 hH;have h7:=jG v7 7 hH;clear hH;obtain⟨J,rfl,bm,al⟩:=h7;have RN:Hid (Rec w1 J [.float .f64 0,.float .f64 0]):=al;have S1:Hid (Rec w1 (w.heap.size+1) [.float .f64 0,.float .f64 0]):=aw R1.out g1;have c:=ab g0 g1;have bq:w.heap.size≤J:=by omega
 have S:J≠w.heap.size+1:=by omega
 clear al R0 R1 H1 H2 g0 g1 bm bs;obtain⟨m,o,af,ag⟩:=fe RN (((ad _)));refine wpAny_ready (rs:=[8]) eZ fX ?_;refine AllReady.cons rfl (fun K hK=> ?_) AllReady.nil;go_simp;refine hK _ _ ?_;clear hK K m o af ag;refine wpAny_done eZ ?_ _;have k1:Rec _ J [.float .f64 D,.float .f64 U]:=bE RN.out;have k2:=Rec.g2 (b:=J) (u:= .float .f64 D) (v:= .float .f64 U) c bq;have k3:Rec ((w1.setCell ⟨J,0,none⟩ (.float .f64 D)).setCell ⟨J,1,none⟩ (.float .f64 U)) (w.heap.size+1) [.float .f64 0,.float .f64 0]:=(S1.out.oth (p:=⟨J,0,none⟩) _ S).oth (p:=⟨J,1,none⟩) _ S;generalize (w1.setCell ⟨J,0,none⟩ (.float .f64 D)).setCell ⟨J,1,none⟩ (.float .f64 U)=w2 at *;have Z:Hid (Rec w2 J [.float .f64 D,.float .f64 U]):=k1;have S2:Hid (Rec w2 (w.heap.size+1) [.float .f64 0,.float .f64 0]):=k3;clear k1 k3 RN S1 c;obtain⟨B,C,E,F⟩:=fe Z (ad _);go_wp2_with fail;clear B C E F;rcases key with ⟨rfl,I⟩|⟨rfl,I⟩
 ·refine eW (I.out _) ?_;rintro e w3 ⟨rfl,g3⟩;clear I;obtain⟨B,C,E,F⟩:=fe Z (g3);obtain⟨M,N,O,R⟩:=fe S2 (g3);go_wp2_with fail;have hT:Hid (Rec _ (w.heap.size+1) [.float .f64 D,.float .f64 U]):=bE (aw S2.out (g3));have g9:=dQ hT.out (ab k2 g3) eX;generalize (World.setCell (World.setCell w3 ⟨w.heap.size+1,0,none⟩ (.float .f64 D)) ⟨w.heap.size+1,1,none⟩ (.float .f64 U))=w9 at *;obtain⟨d,i,j,k⟩:=fe hT (((ad _)));refine bodyPost_ret (v:= .tuple #[.agg #[.float .f64 D,.float .f64 U],.int .i64 0]) (by simp [results,Tryz.results123,go_sem, *]) rfl ?_;exact⟨rfl,g9⟩
 ·refine eW (I.out _) ?_;rintro e w3 ⟨rfl,g3⟩;clear I;obtain⟨M,N,O,R⟩:=fe S2 (g3);go_wp2_with fail;have hT:Hid (Rec _ (w.heap.size+1) [.float .f64 0,.float .f64 0]):=bE (aw S2.out (g3));have g9:=dQ hT.out (ab k2 g3) eX;generalize (World.setCell (World.setCell w3 ⟨w.heap.size+1,0,none⟩ (.float .f64 0)) ⟨w.heap.size+1,1,none⟩ (.float .f64 0))=w9 at *;obtain⟨d,i,j,k⟩:=fe hT (((ad _)));refine bodyPost_ret (v:= .tuple #[.agg #[.float .f64 0,.float .f64 0],.int .i64 3]) (by simp [results,Tryz.results123,go_sem, *]) rfl ?_;exact⟨rfl,g9⟩
end Go.Proofs.YtohcneeihdkfgaaGreatDoor.EN
namespace Go.Proofs.YtohcneeihdkfgaaGreatDoor.EN
open Go.ChangeShapes Go.WideShapes Go.ChangeAt Go.RowKit
attribute [local go_sem] fu
theorem rX (w:World) (J lo hi:Nat) (N:lo<2^64) (M:hi<2^64) (hb:Rec w J [.float .f64 lo,.float .f64 hi]):
  Calls Tryz.prog 130 #[.slice (some ⟨J,0,none⟩) 1 1] w fun e w'=>e= .returned (.int .i64 (spE lo hi))∧G w w':=by
 have F:Hid (∀ w1:World,_):=fun w1=>kS w1 lo hi N M;have I:Hid (Rec w J [.float .f64 lo,.float .f64 hi]):=hb;clear hb N M;generalize spE lo hi=K at *;by_cases h1:K=0
 ·subst h1;go_enter Tryz.func130,Tryz.ntmps130;go_wp2_with fail;refine wp_loop_rounds 2 ?_;obtain⟨A,B,C,D⟩:=fe I (ad _);rw[rounds_succ];go_wp2_with fail;refine eW (F.out _) ?_;rintro e w1 ⟨rfl,g1⟩;have E:=ab ((ad w).alloc (.cells #[.float .f64 lo,.float .f64 hi] 72)) g1;clear g1 A B C D I F;go_wp2_with fail;rw[rounds_succ];go_wp2_with fail;go_ret;exact⟨rfl,E⟩
 ·have O:(K==0)=false:=by simpa using h1
  have R:(K != 0)=true:=by simpa using h1
  clear h1;go_enter Tryz.func130,Tryz.ntmps130;go_wp2_with fail;refine wp_loop_rounds 2 ?_;obtain⟨A,B,C,D⟩:=fe I (ad _);rw[rounds_succ];go_wp2_with fail;refine eW (F.out _) ?_;rintro e w1 ⟨rfl,g1⟩;have E:=ab ((ad w).alloc (.cells #[.float .f64 lo,.float .f64 hi] 72)) g1;clear g1 A B C D I F;go_wp2_with fail;go_ret;exact⟨rfl,E⟩
/-- What is wrong with the first of two spans of which there is something to tell. -/
def spE2 (a b c d:Nat):Int:=if spE a b=0 then spE c d else spE a b
theorem nZ (w:World) (Y lo hi lo2 hi2:Nat) (m:lo<2^64) (k:hi<2^64) (U:lo2<2^64) (S:hi2<2^64) (hb:Rec w Y [.float .f64 lo,.float .f64 hi,.float .f64 lo2,.float .f64 hi2]):
  Calls Tryz.prog 130 #[.slice (some ⟨Y,0,none⟩) 2 2] w fun e w'=>e= .returned (.int .i64 (spE2 lo hi lo2 hi2))∧G w w':=by
 have W:Hid (∀ w1:World,_):=fun w1=>kS w1 lo hi m k;have Z:Hid (∀ w1:World,_):=fun w1=>kS w1 lo2 hi2 U S;have O:Hid (Rec w Y [.float .f64 lo,.float .f64 hi,.float .f64 lo2,.float .f64 hi2]):=hb;have j:∀ r:Int,r=spE2 lo hi lo2 hi2↔r=if spE lo hi=0 then spE lo2 hi2 else spE lo hi:=fun r=>Iff.rfl;obtain⟨r,c⟩:∃ r,r=spE2 lo hi lo2 hi2:=⟨_,rfl⟩;rw[← c];have X:Hid (r=if spE lo hi=0 then spE lo2 hi2 else spE lo hi):=(j r).1 c;clear hb m k U S j c;generalize spE lo hi=i at *;generalize spE lo2 hi2=e2 at *;by_cases h1:i=0
 ·subst h1;have N:r=e2:=by rw[X.out,if_pos rfl]
  subst N;clear X;have body:∀ z:Bool,(r==0)=z→(r != 0)= !z→(z=true→r=0)→Calls Tryz.prog 130 #[.slice (some ⟨Y,0,none⟩) 2 2] w fun e w'=>e= .returned (.int .i64 r)∧G w w':=by
   intro z o k2 d;go_enter Tryz.func130,Tryz.ntmps130;go_wp2_with fail;refine wp_loop_rounds 3 ?_;obtain⟨A,B,C,D,E,F,I,J⟩:=Rec.f4 (aw O.out (ad _));rw[rounds_succ];go_wp2_with fail;refine eW (W.out _) ?_;rintro e w1 ⟨rfl,g1⟩;have M:=ab ((ad w).alloc (.cells #[.float .f64 lo,.float .f64 hi] 72)) g1;clear g1 A B C D E F I J W;go_wp2_with fail;obtain⟨A,B,C,D,E,F,I,J⟩:=Rec.f4 (aw O.out (M));rw[rounds_succ];go_wp2_with fail;refine eW (Z.out _) ?_;rintro e w2 ⟨rfl,g2⟩;have R:=ab (et M (.cells #[.float .f64 lo2,.float .f64 hi2] 72)) g2;clear g2 M A B C D E F I J Z O;cases z
   ·clear d;go_wp2_with fail;go_ret;exact⟨rfl,R⟩
   ·have K:=d rfl;subst K;clear o k2 d;go_wp2_with fail;rw[rounds_succ];go_wp2_with fail;go_ret;exact⟨rfl,R⟩
  by_cases K:r=0
  ·exact body true (by rw[K];rfl) (by rw[K];rfl) (fun _=>K)
  ·exact body false (by simpa using K) (by simpa using K) (fun h=>by cases h)
 ·have N:r=i:=by rw[X.out,if_neg h1]
  subst N;have o:(r==0)=false:=by simpa using h1
  have k2:(r != 0)=true:=by simpa using h1
  clear h1 X;go_enter Tryz.func130,Tryz.ntmps130;go_wp2_with fail;refine wp_loop_rounds 3 ?_;obtain⟨A,B,C,D,E,F,I,J⟩:=Rec.f4 (aw O.out (ad _));rw[rounds_succ];go_wp2_with fail;refine eW (W.out _) ?_;rintro e w1 ⟨rfl,g1⟩;have M:=ab ((ad w).alloc (.cells #[.float .f64 lo,.float .f64 hi] 72)) g1;clear g1 A B C D E F I J O W Z;go_wp2_with fail;go_ret;exact⟨rfl,M⟩
theorem q2c (w:World) (A:Nat):Calls Tryz.prog 116 #[.func (.func A) #[] #[]] w fun e w'=>∃ bd,e= .returned (.func (.func 197) #[] #[.pointer (some ⟨bd,0,none⟩)])∧G w w'∧w.heap.size≤bd∧Rec w' bd [.func (.func A) #[] #[]]:=by
 go_enter Tryz.func116,Tryz.ntmps116;go_wp2_with fail;obtain⟨w0,B,g0,D,C⟩:=ft w [.func (.func A) #[] #[]] 133;rw[B];go_ret;exact⟨_,rfl,g0,aI _,C.out⟩
end Go.Proofs.YtohcneeihdkfgaaGreatDoor.EN
namespace Go.Proofs.YtohcneeihdkfgaaGreatDoor.EN
open Go.ChangeShapes Go.WideShapes Go.ChangeAt Go.RowKit
/-- A span of fractions and a code, as a pair. -/
def EST (w:World) (v:Value) (x y:Rat) (c:Int):Prop:=∃ u,v= .tuple #[u,.int .i64 c]∧ES w u x y
theorem EST.G {w w':World} {v:Value} {x y:Rat} {c:Int} (h:EST w v x y c) (g:G w w'):EST w' v x y c:=by
 obtain⟨u,e,h⟩:=h;exact⟨u,e,h.G g⟩
def rY (w:World) (x y:Rat) (c:Int) (e:Ending) (w':World):Prop:=∃ v,e= .returned v∧G w w'∧EST w' v x y c
theorem RetESE.t {w:World} {x y:Rat} {c:Int} {e:Ending} {w':World} (h:RetESE w x y c e w'):rY w x y c e w':=by
 obtain⟨v,e,g,h⟩:=h;exact⟨_,e,g,v,rfl,h⟩
def zero6:List Value:=[.bool false,.slice none 0 0,.slice none 0 0,.bool false,.slice none 0 0,.slice none 0 0]
/-- What is known of each operation's value. -/
def KT (B:Value) (lo hi lo2 hi2:Nat) (a b c d x y:Rat) (A:Int):Nat→Value→World→Prop
 |0,v,_=>v=B|1,v,_=>v= .agg #[.float .f64 lo,.float .f64 hi]|2,v,w=>ES w v a b|3,v,_=>v= .agg #[.float .f64 lo2,.float .f64 hi2]|4,v,w=>ES w v c d
 |5,v,w=>EST w v x y A|6,v,w=>EST w v x y A|7,v,w=>ES w v x y|8,v,_=>v= .int .i64 A|11,v,_=>v= .int .i64 A|_,_,_=>True
theorem KT.last {B:Value} {lo hi lo2 hi2:Nat} {a b c d x y:Rat} {A:Int} {j:Nat} {v:Value} {w w':World} (C:∀ v p q,ES w v p q→ES w' v p q) (h:KT B lo hi lo2 hi2 a b c d x y A j v w):KT B lo hi lo2 hi2 a b c d x y A j v w':=by
 revert h;unfold KT;split<;>(first|exact fun h=>h|exact C _ _ _|(rintro⟨u,e,h⟩;exact⟨u,e,C _ _ _ h⟩))
theorem KT.g {B:Value} {lo hi lo2 hi2:Nat} {a b c d x y:Rat} {A:Int} {w w':World} (g:G w w'):∀ j u,KT B lo hi lo2 hi2 a b c d x y A j u w→KT B lo hi lo2 hi2 a b c d x y A j u w':=fun _ _ h=>h.last (fun _ _ _ k=>k.G g)
/-- Six cells written. -/
def put6 (w:World) (b:Nat) (u1 u2 u3 u4 u5 u6:Value):World:=(((((w.setCell ⟨b,0,none⟩ u1).setCell ⟨b,1,none⟩ u2).setCell ⟨b,2,none⟩ u3).setCell ⟨b,3,none⟩ u4).setCell ⟨b,4,none⟩ u5).setCell ⟨b,5,none⟩ u6
theorem KT.put {C:Value} {lo hi lo2 hi2:Nat} {a b c d x y:Rat} {B:Int} {w:World} {A:Nat} {u1 u2 u3 u4 u5 u6:Value} (r:Rec w A zero6):∀ j u,KT C lo hi lo2 hi2 a b c d x y B j u w→KT C lo hi lo2 hi2 a b c d x y B j u (put6 w A u1 u2 u3 u4 u5 u6):=fun _ _ h=>
 h.last (fun v p q k=>by
  obtain⟨D,J,c1,a2,K,E,a3,M,F,a4,N,I,e,h1,h2⟩:=k;exact⟨D,J,c1,a2,K,E,a3,M,F,a4,N,I,e,ek h1 r fm,ek h2 r fm⟩)
/-- A block holds a span of fractions, cell by cell. -/
def Cells6 (w:World) (A:Nat) (v:Value):Prop:=∃ u1 u2 u3 u4 u5 u6,v= .agg #[u1,u2,u3,u4,u5,u6]∧Rec w A [u1,u2,u3,u4,u5,u6]
/-- What holds between the operations. -/
structure KI (T:Nat→Value→World→Prop) (w0:World) (L:Nat→Bool) (f:Nat→Value) (w:World):Prop where
 g:G w0 w
 held:∀ j,L j=true→T j (f j) w
 c10:L 10=true→L 7=true∧L 9=true
 blk:L 9=true→∃ bn,f 9= .pointer (some ⟨bn,0,none⟩)∧w0.heap.size≤bn∧((L 10=false∧Rec w bn zero6)∨(L 10=true∧Cells6 w bn (f 7)))
theorem Cells6.G {w w':World} {A:Nat} {v:Value} (h:Cells6 w A v) (g:G w w'):Cells6 w' A v:=by
 obtain⟨u1,u2,u3,u4,u5,u6,e,h⟩:=h;exact⟨u1,u2,u3,u4,u5,u6,e,h.G g⟩
section
variable {T:Nat→Value→World→Prop} {w0 w w':World} {L:Nat→Bool} {f:Nat→Value}
theorem KI.step (h:KI T w0 L f w) (i:Nat) (v:Value) (D:i≠9) (B:i≠10) (J:i=7→L 7=false) (g:G w w') (K:∀ j u,T j u w→T j u w') (hv:T i v w'):KI T w0 (upd L i true) (upd f i v) w' where
 g:=ab h.g g
 held:=jn h.held K hv
 c10:=fun k=>by
  rw[upd_ne _ _ (bZ B)] at k;obtain⟨A,C⟩:=h.c10 k;constructor
  ·by_cases e:7=i
   ·rw[← e,upd_same]
   ·rw[upd_ne _ _ e];exact A
  ·rw[upd_ne _ _ (bZ D)];exact C
 blk:=fun k=>by
  rw[upd_ne _ _ (bZ D)] at k;obtain⟨I,e,hle,F⟩:=h.blk k;rw[upd_ne _ _ (bZ D),upd_ne _ _ (bZ B)];refine⟨I,e,hle,?_⟩;rcases F with ⟨A,C⟩|⟨A,C⟩
  ·exact Or.inl ⟨A,C.G g⟩
  ·refine Or.inr ⟨A,?_⟩;have E:7≠i:=fun e=>by
    have:=J e.symm;rw[(h.c10 A).1] at this;cases this
   rw[upd_ne _ _ E];exact C.G g
theorem KI.mk9 (h:KI T w0 L f w) (t:TypeId) (A:L 9=false) (B:∀ j u,T j u w→T j u (w.alloc (.cells zero6.toArray t))) (hv:∀ v w,T 9 v w):KI T w0 (upd L 9 true) (upd f 9 (.pointer (some ⟨w.heap.size,0,none⟩))) (w.alloc (.cells zero6.toArray t)) where
 g:=h.g.alloc _
 held:=jn h.held B (hv _ _)
 c10:=fun k=>by
  rw[upd_ne _ _ fk] at k;have:=(h.c10 k).2;rw[A] at this;cases this
 blk:=fun _=>by
  rw[upd_same,upd_ne _ _ fk];refine⟨_,rfl,h.g.size,Or.inl ⟨?_,Rec.new w zero6 t⟩⟩;cases k:L 10 with
  |false=>rfl
  |true=>
   have:=(h.c10 k).2;rw[A] at this;cases this
theorem KI.wr10 (h:KI T w0 L f w) (v:Value) {B:Nat} {u1 u2 u3 u4 u5 u6:Value} (M:L 7=true) (F:L 9=true) (J:L 10=false) (e:f 9= .pointer (some ⟨B,0,none⟩)) (I:f 7= .agg #[u1,u2,u3,u4,u5,u6])
  (K:∀ B,Rec w B zero6→∀ j u,T j u w→T j u (put6 w B u1 u2 u3 u4 u5 u6)) (hv:∀ v w,T 10 v w):KI T w0 (upd L 10 true) (upd f 10 v) (put6 w B u1 u2 u3 u4 u5 u6):=by
 obtain⟨N,A,hle,C⟩:=h.blk F;rw[e] at A;injection A with A;injection A with A;injection A with A;subst A;have D:Rec w B zero6:=by
  rcases C with ⟨-,k⟩|⟨k,-⟩
  ·exact k
  ·rw[J] at k;cases k
 have E:=D;unfold zero6 at D;refine⟨Rec.g6 h.g hle,jn h.held (K _ E) (hv _ _),fun _=> ?_,fun _=> ?_⟩
 ·rw[upd_ne _ _ fk,upd_ne _ _ fk];exact⟨M,F⟩
 ·rw[upd_ne f _ fk,upd_ne f _ fk,upd_same];exact⟨B,e,hle,Or.inr ⟨rfl,u1,u2,u3,u4,u5,u6,I,Rec.set6 D⟩⟩
end
end Go.Proofs.YtohcneeihdkfgaaGreatDoor.EN
namespace Go.Proofs.YtohcneeihdkfgaaGreatDoor.EN
open Go.ChangeShapes Go.WideShapes Go.ChangeAt Go.RowKit
attribute [local go_sem] fu
set_option maxHeartbeats 1000000 in
theorem q18 (w:World) (v u:Value) (a b c d x y:Rat) (U bd:Nat) (hv:ES w v a b) (hu:ES w u c d) (hd:Rec w bd [.func (.func U) #[] #[]])
  (hF:∀ w1 v1 u1,G w w1→ES w1 v1 a b→ES w1 u1 c d→Calls Tryz.prog U #[v1,u1] w1 (kj w1 x y)) (hE:∀ args w,(callFunc U args).run Tryz.prog w= .ok (.enter U args) w):
  Calls Tryz.prog 197 #[v,u,.pointer (some ⟨bd,0,none⟩)] w (RetESE w x y 0):=by
 have HF:Hid (∀ w1,G w w1→_):=fun w1 g=>hF w1 v u g (hv.G g) (hu.G g);have HE:Hid (∀ args w,(callFunc U args).run Tryz.prog w= .ok (.enter U args) w):=hE;have HD:Hid (Rec w bd [.func (.func U) #[] #[]]):=hd;obtain⟨m,k1,c1,a2,k2,c2,a3,k3,c3,a4,k4,c4,rfl,-,-⟩:=hv;obtain⟨a5,k5,c5,o,k6,c6,a7,k7,c7,a8,k8,c8,rfl,-,-⟩:=hu;clear hF hE hd;generalize decide (a.num<0)=t1 at *;generalize decide (b.num<0)=t2 at *;generalize decide (c.num<0)=t3 at *;generalize decide (d.num<0)=t4 at *;have gA:=et (et (et (ad w) (.cells #[.bool t1,.slice m k1 c1,.slice a2 k2 c2,.bool t2,.slice a3 k3 c3,.slice a4 k4 c4] 136)) (.cells #[.bool t3,.slice a5 k5 c5,.slice o k6 c6,.bool t4,.slice a7 k7 c7,.slice a8 k8 c8] 136)) (.cells #[.bool false,.slice none 0 0,.slice none 0 0,.bool false,.slice none 0 0,.slice none 0 0] 136);have Y:=(aw HD.out gA).cell 0;have ap:=HE.out #[.agg #[.bool t1,.slice m k1 c1,.slice a2 k2 c2,.bool t2,.slice a3 k3 c3,.slice a4 k4 c4],.agg #[.bool t3,.slice a5 k5 c5,.slice o k6 c6,.bool t4,.slice a7 k7 c7,.slice a8 k8 c8]] (World.alloc (World.alloc (World.alloc w (.cells #[.bool t1,.slice m k1 c1,.slice a2 k2 c2,.bool t2,.slice a3 k3 c3,.slice a4 k4 c4] 136)) (.cells #[.bool t3,.slice a5 k5 c5,.slice o k6 c6,.bool t4,.slice a7 k7 c7,.slice a8 k8 c8] 136)) (.cells #[.bool false,.slice none 0 0,.slice none 0 0,.bool false,.slice none 0 0,.slice none 0 0] 136));rw[show ([Value.func (.func U) #[] #[]]:List Value)[0]? =some (.func (.func U) #[] #[]) from rfl] at Y
 go_enter Tryz.func197,Tryz.ntmps197;go_wp2_with fail;clear Y ap gA;obtain⟨w0,j,g0,di,R0,R1,k⟩:=gf w [.bool t1,.slice m k1 c1,.slice a2 k2 c2,.bool t2,.slice a3 k3 c3,.slice a4 k4 c4] [.bool t3,.slice a5 k5 c5,.slice o k6 c6,.bool t4,.slice a7 k7 c7,.slice a8 k8 c8] [.bool false,.slice none 0 0,.slice none 0 0,.bool false,.slice none 0 0,.slice none 0 0] 136 136 136;rw[j];clear j;refine eW (HF.out _ g0) ?_;intro e w1 hs;obtain⟨v,rfl,g1,hv⟩:=hs;clear HE HF HD R0 R1;obtain⟨A,K,E,B,M,F,C,N,I,D,O,J,rfl,Z,i⟩:=hv;generalize decide ((x).num<0)=R at *;generalize decide ((y).num<0)=S at *;have af:Hid (QIs w1 (.agg #[.bool R,.slice A K E,.slice B M F]) (x)):=Z;have ag:Hid (QIs w1 (.agg #[.bool S,.slice C N I,.slice D O J]) (y)):=i;clear Z i;obtain⟨ca,cb,cc,cd,ce,ci,cl,cr,cs,cz,am,an⟩:=cY (aw k.out ((g1)));have W:QIs _ _ (x):=ek (u1:= .bool R) (u2:= .slice A K E) (u3:= .slice B M F) (u4:= .bool S) (u5:= .slice C N I) (u6:= .slice D O J) af.out (aw k.out (g1)) fm;have X:QIs _ _ (y):=ek (u1:= .bool R) (u2:= .slice A K E) (u3:= .slice B M F) (u4:= .bool S) (u5:= .slice C N I) (u6:= .slice D O J) ag.out (aw k.out (g1)) fm;go_wp2_with fail;have hT:Hid (Rec _ (w.heap.size+2) [.bool R,.slice A K E,.slice B M F,.bool S,.slice C N I,.slice D O J]):=Rec.set6 (aw k.out (g1));have g9:=Rec.h6 hT.out (ab g0 g1) eX
 generalize (World.setCell (World.setCell (World.setCell (World.setCell (World.setCell (World.setCell w1 ⟨w.heap.size+2,0,none⟩ (.bool R)) ⟨w.heap.size+2,1,none⟩ (.slice A K E)) ⟨w.heap.size+2,2,none⟩ (.slice B M F)) ⟨w.heap.size+2,3,none⟩ (.bool S)) ⟨w.heap.size+2,4,none⟩ (.slice C N I)) ⟨w.heap.size+2,5,none⟩ (.slice D O J))=w9 at *;obtain⟨bi,bl,bm,bn,bq,bs,bu,bv,bw,bz,ai,al⟩:=cY (aw hT.out ((ad _)));refine bodyPost_ret (v:= .tuple #[.agg #[.bool R,.slice A K E,.slice B M F,.bool S,.slice C N I,.slice D O J],.int .i64 0]) (by simp [results,Tryz.results197,go_sem, *]) rfl ?_;exact⟨_,rfl,g9,jy W X⟩
set_option maxRecDepth 30000 in
set_option maxHeartbeats 4000000 in
theorem q3q (w:World) (lo hi lo2 hi2:Nat) (x y:Rat) (I:Int) (hT:Tab w) (hl:lo<2^64) (hh:hi<2^64) (cs:lo2<2^64) (cr:hi2<2^64)
  (fv:Value) (hF:spE2 lo hi lo2 hi2=0→(∃ bd,fv= .func (.func 197) #[] #[.pointer (some ⟨bd,0,none⟩)]∧∀ w1 v1 u1,G w w1→ES w1 v1 (FQ lo) (FQ hi)→ES w1 u1 (FQ lo2) (FQ hi2)→Calls Tryz.prog 197 #[v1,u1,.pointer (some ⟨bd,0,none⟩)] w1 (rY w1 x y I))∨(fv= .func (.func 120) #[] #[]∧∀ w1 v1 u1,G w w1→ES w1 v1 (FQ lo) (FQ hi)→ES w1 u1 (FQ lo2) (FQ hi2)→Calls Tryz.prog 120 #[v1,u1] w1 (rY w1 x y I)))
  (qx:spE2 lo hi lo2 hi2=0→QB x 400) (qy:spE2 lo hi lo2 hi2=0→QB y 400) (r:Nat×Nat×Int) (hr:r=if spE2 lo hi lo2 hi2=0 then (if I=0 then outF x y else (0,0,I)) else (0,0,spE2 lo hi lo2 hi2)):
  Calls Tryz.prog 115 #[.agg #[.float .f64 lo,.float .f64 hi],.agg #[.float .f64 lo2,.float .f64 hi2],fv] w (fR w r):=by
 have HW:Hid (∀ w1 bs,Rec w1 bs [.float .f64 lo,.float .f64 hi,.float .f64 lo2,.float .f64 hi2]→_):=fun w1 bs h=>nZ w1 bs lo hi lo2 hi2 hl hh cs cr h;have HF:=hi9 hF;have Z:spE2 lo hi lo2 hi2=0→(fex lo<2047∧fex hi<2047)∧fex lo2<2047∧fex hi2<2047:=fun h=>by
  have h1:spE lo hi=0:=by
   unfold spE2 at h;by_cases k:spE lo hi=0
   ·exact k
   ·rw[if_neg k] at h;exact absurd h k
  have h2:spE lo2 hi2=0:=by unfold spE2 at h;rwa[if_pos h1] at h
  have k1:=fA hl hh h1;have k2:=fA cs cr h2;exact⟨⟨k1.1,k1.2.1⟩,k2.1,k2.2.1⟩
 have eb:Hid (spE2 lo hi lo2 hi2=0→∀ w1,G w w1→_):=fun h w1 g=>ly w1 lo hi (hT.G g) hl hh (Z h).1.1 (Z h).1.2;have ee:Hid (spE2 lo hi lo2 hi2=0→∀ w1,G w w1→_):=fun h w1 g=>ly w1 lo2 hi2 (hT.G g) cs cr (Z h).2.1 (Z h).2.2;have ai:Hid (spE2 lo hi lo2 hi2=0→∀ w1 v1,ES w1 v1 x y→_):=fun h w1 v1 k=>q5x w1 v1 x y k (qx h) (qy h);have HR:Hid (r=if spE2 lo hi lo2 hi2=0 then (if I=0 then outF x y else (0,0,I)) else (0,0,spE2 lo hi lo2 hi2)):=hr;clear hT hl hh cs cr hF hr qx qy Z;generalize FQ lo=a at *;generalize FQ hi=b at *;generalize FQ lo2=c at *;generalize FQ hi2=d at *;generalize outF x y=o at *;generalize spE2 lo hi lo2 hi2=e0 at *;obtain⟨r1,r2,r3⟩:=r;by_cases he:e0=0
 ·subst he;have ep:=hi9 (HF.out rfl);have eu:Hid (∀ w1,G w w1→_):=eb.out rfl;have ez:Hid (∀ w1,G w w1→_):=ee.out rfl;have em:Hid (∀ w1 v1,ES w1 v1 x y→_):=ai.out rfl;have m:Hid ((r1,r2,r3)=if I=0 then o else (0,0,I)):=by show _=_;rw[HR.out,if_pos rfl]
  clear HF eb ee ai HR;go_enter Tryz.func115,Tryz.ntmps115;go_wp2_with fail;obtain⟨w0,cb,g0,cz,R0,R1,R2⟩:=gf w [.float .f64 lo,.float .f64 hi] [.float .f64 lo2,.float .f64 hi2] [.float .f64 0,.float .f64 0] 72 72 72;rw[cb];clear cb;obtain⟨J,M,N,O⟩:=fe R0 (ad _);obtain⟨R,S,U,X⟩:=fe R1 (ad _);go_wp2_with fail;clear J M N O R S U X;have ca:=Rec.new w0 [.float .f64 lo,.float .f64 hi,.float .f64 lo2,.float .f64 hi2] 72;rw[cz] at ca;refine eW (HW.out _ _ ca) ?_;rintro e w1 ⟨rfl,g1⟩;have E:=ab ((ad w0).alloc (.cells #[.float .f64 lo,.float .f64 hi,.float .f64 lo2,.float .f64 hi2] 72)) g1;have gw:=ab g0 E;have S0:Hid (Rec w1 w.heap.size _):=aw R0.out E;have S1:Hid (Rec w1 (w.heap.size+1) _):=aw R1.out E;have S2:Hid (Rec w1 (w.heap.size+2) _):=aw R2.out E;have kk:=E.size;have kp:w.heap.size+2<w1.heap.size:=by omega
  clear g1 R0 R1 R2 HW g0 cz E kk;go_wp2_with fail;refine RV.region_inv 12 0 #[true,true,true,true,true,true,true,true,true,true,true,true] [some 20,some 21,some 22,some 23,some 24,some 25,some 19,some 26,some 27,some 9,none,some 10] (KI (KT fv lo hi lo2 hi2 a b c d x y I) w1) eZ eZ rfl eZ eZ ?_ ?_
  ·intro f;exact⟨(ad _).drew,fun j h=>(by cases h),fun h=>(by cases h),fun h=>(by cases h)⟩
  ·intro A i;simp only[List.range,List.range.loop,du,eH,fG,Act.put,aq,ay,az] at i;refine⟨?_,?_⟩
   ·skip
    refine aC rfl ?_ ?_
    ·intro L f W B F D K C;rw[i f] at C ⊢;go_simp;exact C.out _ _ ⟨_,rfl,KI.step B 0 _ fk fk (fun h=>by cases h) (ad _) (KT.g (ad _)) rfl⟩
    refine aC rfl ?_ ?_
    ·intro L f W B F D K C;rw[i f] at C ⊢;obtain⟨hq,ht,hw,hx⟩:=fe S0 (B.g);go_simp;exact C.out _ _ ⟨_,rfl,KI.step B 1 _ fk fk (fun h=>by cases h) (ad _) (KT.g (ad _)) rfl⟩
    refine aC rfl ?_ ?_
    ·intro L f W B F D K C;rw[i f] at C ⊢;have e1:f 1= .agg #[.float .f64 lo,.float .f64 hi]:=B.held 1 (D 1 eZ);rw[e1] at C ⊢;clear e1 D;go_simp;go_wp2_with (go_at_call 131;refine eW (eu.out W (ab gw B.g)) ?_;intro e w9 hs;obtain⟨u9,rfl,g9,bw⟩:=hs);exact C.out _ _ ⟨_,rfl,KI.step B 2 _ fk fk (fun h=>by cases h) g9 (KT.g g9) bw⟩
    refine aC rfl ?_ ?_
    ·intro L f W B F D K C;rw[i f] at C ⊢;obtain⟨hy,hz,ia,ib⟩:=fe S1 (B.g);go_simp;exact C.out _ _ ⟨_,rfl,KI.step B 3 _ fk fk (fun h=>by cases h) (ad _) (KT.g (ad _)) rfl⟩
    refine aC rfl ?_ ?_
    ·intro L f W B F D K C;rw[i f] at C ⊢;have e1:f 3= .agg #[.float .f64 lo2,.float .f64 hi2]:=B.held 3 (D 3 eZ);rw[e1] at C ⊢;clear e1 D;go_simp;go_wp2_with (go_at_call 131;refine eW (ez.out W (ab gw B.g)) ?_;intro e w9 hs;obtain⟨u9,rfl,g9,bw⟩:=hs);exact C.out _ _ ⟨_,rfl,KI.step B 4 _ fk fk (fun h=>by cases h) g9 (KT.g g9) bw⟩
    refine aC rfl ?_ ?_
    ·intro L f W B F D K C;rw[i f] at C ⊢;have e0:f 0=fv:=B.held 0 (D 0 eZ);have h2:ES W (f 2) a b:=B.held 2 (D 2 eZ);have h4:ES W (f 4) c d:=B.held 4 (D 4 eZ);rcases ep.out with ⟨bd,e,ds⟩|⟨e,ds⟩
     all_goals
      rw[e] at e0;rw[e0] at C ⊢;have ih:=hi9 (ds W (f 2) (f 4) (ab gw B.g) h2 h4);generalize f 2=v2 at *;generalize f 4=v4 at *;clear e0 D e ds;go_simp;go_wp2_with ((first|go_at_call 197|go_at_call 120);refine eW ih.out ?_;intro e w9 hs;obtain⟨u9,rfl,g9,bw⟩:=hs);exact C.out _ _ ⟨_,rfl,KI.step B 5 _ fk fk (fun h=>by cases h) g9 (KT.g g9) bw⟩
    refine aC rfl ?_ ?_
    ·intro L f W B F D K C;rw[i f] at C ⊢;have h5:EST W (f 5) x y I:=B.held 5 (D 5 eZ);go_simp;exact C.out _ _ ⟨_,rfl,KI.step B 6 _ fk fk (fun h=>by cases h) (ad _) (KT.g (ad _)) h5⟩
    refine aC rfl ?_ ?_
    ·intro L f W B F D K C;rw[i f] at C ⊢;have h6:EST W (f 6) x y I:=B.held 6 (D 6 eZ);obtain⟨u6,e6,fb⟩:=h6;rw[e6] at C ⊢;clear e6 D;go_simp;exact C.out _ _ ⟨_,rfl,KI.step B 7 _ fk fk (fun _=>F) (ad _) (KT.g (ad _)) fb⟩
    refine aC rfl ?_ ?_
    ·intro L f W B F D K C;rw[i f] at C ⊢;have h6:EST W (f 6) x y I:=B.held 6 (D 6 eZ);obtain⟨u6,e6,fb⟩:=h6;rw[e6] at C ⊢;clear e6 D;go_simp;exact C.out _ _ ⟨_,rfl,KI.step B 8 _ fk fk (fun h=>by cases h) (ad _) (KT.g (ad _)) rfl⟩
    refine aC rfl ?_ ?_
    ·intro L f W B F D K C;rw[i f] at C ⊢;go_simp;exact C.out _ _ ⟨_,rfl,KI.mk9 B _ F (KT.g ((ad W).alloc _)) (fun _ _=>trivial)⟩
    refine aC rfl ?_ ?_
    ·intro L f W B F D K C;rw[i f] at C ⊢;have k9:=D 9 eZ;have k7:=D 7 eZ;obtain⟨bn,e9,hle,bz⟩:=B.blk k9;have fs:Rec W bn zero6:=by
      rcases bz with ⟨-,k⟩|⟨k,-⟩
      ·exact k
      ·rw[F] at k;cases k
     have RZ:Hid (Rec W bn [.bool false,.slice none 0 0,.slice none 0 0,.bool false,.slice none 0 0,.slice none 0 0]):=fs;have h7:ES W (f 7) x y:=B.held 7 k7;obtain⟨kr,lg,ky,ks,li,la,kw,lk,lb,kx,lm,lc,e7,jj,jp⟩:=h7;have ea:=KI.wr10 B undef k7 k9 F e9 e7 (fun bn r=>KT.put r) (fun _ _=>trivial);unfold put6 at ea;have ii:=hi9 ea;rw[e9,e7] at C ⊢;generalize decide (x.num<0)=np at *;generalize decide (y.num<0)=nr at *;clear D bz jj jp ea B e9 e7 fs;obtain⟨hc,hd,hf,hg,hj,hk,hm,hn,ho,hp,fh,fp⟩:=cY (aw RZ.out (ad _));go_simp;exact C.out _ _ ⟨_,rfl,ii.out⟩
    refine aC rfl ?_ ?_
    ·intro L f W B F D K C;rw[i f] at C ⊢;have e8:f 8= .int .i64 I:=B.held 8 (D 8 eZ);rw[e8] at C ⊢;clear e8 D;go_simp;exact C.out _ _ ⟨_,rfl,KI.step B 11 _ fk fk (fun h=>by cases h) (ad _) (KT.g (ad _)) rfl⟩
    exact RV.Ones.nil
   ·skip
    intro f L w3 B F;have h7:ES w3 (f 7) x y:=B.held 7 (F 7 fk);have fa:f 11= .int .i64 I:=B.held 11 (F 11 fk);obtain⟨bn,e9,hle,bz⟩:=B.blk (F 9 fk);have it:Cells6 w3 bn (f 7):=by
     rcases bz with ⟨k,-⟩|⟨-,k⟩
     ·rw[F 10 fk] at k;cases k
     ·exact k
    obtain⟨u1,u2,u3,u4,u5,u6,e7,fr⟩:=it;have HX:Hid (ES w3 (.agg #[u1,u2,u3,u4,u5,u6]) x y):=by show ES _ _ _ _;rw[← e7];exact h7
    have io:Hid (Rec w3 bn [u1,u2,u3,u4,u5,u6]):=fr;have T3:Hid (Rec w3 (w.heap.size+2) [.float .f64 0,.float .f64 0]):=aw S2.out B.g;have ga:=ab gw B.g;rw[i f,e9,fa];generalize f 0=ls,f 1=lw,f 2=mm,f 3=mn,f 4=mp,f 5=ms,f 6=nc,f 7=ni,f 8=nl,f 10=kq at *;clear B F i e9 fa e7 bz h7 fr S0 S1 S2 eu ez ep gw hle;refine wpAny_done eZ ?_ _;by_cases Y:I=0
    ·subst Y;have cc:Hid (o=(r1,r2,r3)):=by show _=_;rw[m.out,if_pos rfl]
     clear m;obtain⟨al,am,an,ap,bi,bl,bm,bq,bu,bv,af,ag⟩:=cY (aw io.out (ad _));go_wp2_with fail;refine eW (em.out w3 _ HX.out) ?_;intro e w4 hs;have kb:e= .returned (.tuple #[.agg #[.float .f64 r1,.float .f64 r2],.int .i64 r3])∧G w3 w4:=by rw[cc.out] at hs;exact hs
     obtain⟨rfl,g4⟩:=kb;clear hs em HX al am an ap bi bl bm bq bu bv af ag cc;obtain⟨cd,ce,ci,cl⟩:=fe T3 (g4);go_wp2_with fail;have hT:Hid (Rec _ (w.heap.size+2) [.float .f64 r1,.float .f64 r2]):=bE (aw T3.out (g4));have g9:=dQ hT.out (ab ga g4) eX;generalize (World.setCell (World.setCell w4 ⟨w.heap.size+2,0,none⟩ (.float .f64 r1)) ⟨w.heap.size+2,1,none⟩ (.float .f64 r2))=w9 at *;obtain⟨di,dl,dq,dr⟩:=fe hT (((ad _)));refine bodyPost_ret (v:= .tuple #[.agg #[.float .f64 r1,.float .f64 r2],.int .i64 r3]) (by simp [results,Tryz.results115,go_sem, *]) rfl ?_;exact⟨rfl,g9⟩
    ·have k1:(I==0)=false:=by simpa using Y
     have k2:(I != 0)=true:=by simpa using Y
     have cc:Hid ((r1,r2,r3)=(0,0,I)):=by show _=_;rw[m.out,if_neg Y]
     clear m Y em HX;obtain⟨cd,ce,ci,cl⟩:=fe T3 (ad _);go_wp2_with fail;have hT:Hid (Rec _ (w.heap.size+2) [.float .f64 0,.float .f64 0]):=bE (aw T3.out (ad _));have g9:=dQ hT.out (ga) eX;generalize (World.setCell (World.setCell w3 ⟨w.heap.size+2,0,none⟩ (.float .f64 0)) ⟨w.heap.size+2,1,none⟩ (.float .f64 0))=w9 at *;obtain⟨di,dl,dq,dr⟩:=fe hT (((ad _)));refine bodyPost_ret (v:= .tuple #[.agg #[.float .f64 0,.float .f64 0],.int .i64 I]) (by simp [results,Tryz.results115,go_sem, *]) rfl ?_;exact⟨by rw[cc.out],g9⟩
 ·have k1:(e0==0)=false:=by simpa using he
  have k2:(e0 != 0)=true:=by simpa using he
  have m:Hid ((r1,r2,r3)=(0,0,e0)):=by show _=_;rw[HR.out,if_neg he]
  clear HF eb ee ai HR he;go_enter Tryz.func115,Tryz.ntmps115;go_wp2_with fail;obtain⟨w0,cb,g0,cz,R0,R1,R2⟩:=gf w [.float .f64 lo,.float .f64 hi] [.float .f64 lo2,.float .f64 hi2] [.float .f64 0,.float .f64 0] 72 72 72;rw[cb];clear cb;obtain⟨J,M,N,O⟩:=fe R0 (ad _);obtain⟨R,S,U,X⟩:=fe R1 (ad _);go_wp2_with fail;clear J M N O R S U X;have ca:=Rec.new w0 [.float .f64 lo,.float .f64 hi,.float .f64 lo2,.float .f64 hi2] 72;rw[cz] at ca;refine eW (HW.out _ _ ca) ?_;rintro e w1 ⟨rfl,g1⟩;have E:=ab ((ad w0).alloc (.cells #[.float .f64 lo,.float .f64 hi,.float .f64 lo2,.float .f64 hi2] 72)) g1;clear g1 R0 R1 HW;obtain⟨gd,gg,gm,ha⟩:=fe R2 (E);go_wp2_with fail;have hT:Hid (Rec _ (w.heap.size+2) [.float .f64 0,.float .f64 0]):=bE (aw R2.out (E));have g9:=dQ hT.out (ab g0 E) eX;generalize (World.setCell (World.setCell w1 ⟨w.heap.size+2,0,none⟩ (.float .f64 0)) ⟨w.heap.size+2,1,none⟩ (.float .f64 0))=w9 at *;obtain⟨di,dl,dq,dr⟩:=fe hT (((ad _)));refine bodyPost_ret (v:= .tuple #[.agg #[.float .f64 0,.float .f64 0],.int .i64 e0]) (by simp [results,Tryz.results115,go_sem, *]) rfl ?_;exact⟨by rw[m.out],g9⟩
theorem qg (w:World) (lo hi lo2 hi2:Nat) (A bd:Nat) (N:Rec w bd [.func (.func A) #[] #[]]) (x y:Rat) (B:Int) (M:Tab w) (R:lo<2^64) (O:hi<2^64) (F:lo2<2^64) (E:hi2<2^64)
  (K:∀ w1 C u1,G w w1→ES w1 C (FQ lo) (FQ hi)→ES w1 u1 (FQ lo2) (FQ hi2)→spE2 lo hi lo2 hi2=0→Calls Tryz.prog A #[C,u1] w1 (kj w1 x y)) (J:∀ args w,(callFunc A args).run Tryz.prog w= .ok (.enter A args) w) (D:B=0)
  (Z:spE2 lo hi lo2 hi2=0→QB x 400) (c:spE2 lo hi lo2 hi2=0→QB y 400) (r:Nat×Nat×Int) (S:r=if spE2 lo hi lo2 hi2=0 then (if B=0 then outF x y else (0,0,B)) else (0,0,spE2 lo hi lo2 hi2)):
  Calls Tryz.prog 115 #[.agg #[.float .f64 lo,.float .f64 hi],.agg #[.float .f64 lo2,.float .f64 hi2],.func (.func 197) #[] #[.pointer (some ⟨bd,0,none⟩)]] w (fR w r):=
 q3q w lo hi lo2 hi2 x y B M R O F E _ (fun I=>Or.inl ⟨bd,rfl,fun w1 C u1 g U W=>by
  rw[D];exact(q18 w1 C u1 _ _ _ _ x y A bd U W (N.G g) (fun d v2 u2 g2 X Y=>K d v2 u2 (ab g g2) X Y I) J).mono fun _ _ h=>h.t⟩) Z c r S
theorem q4W (w:World) (lo hi lo2 hi2:Nat) (x y:Rat) (A:Int) (I:Tab w) (K:lo<2^64) (J:hi<2^64) (D:lo2<2^64) (C:hi2<2^64)
  (F:∀ w1 B u1,G w w1→ES w1 B (FQ lo) (FQ hi)→ES w1 u1 (FQ lo2) (FQ hi2)→spE2 lo hi lo2 hi2=0→Calls Tryz.prog 120 #[B,u1] w1 (RetESE w1 x y A))
  (R:spE2 lo hi lo2 hi2=0→QB x 400) (S:spE2 lo hi lo2 hi2=0→QB y 400) (r:Nat×Nat×Int) (M:r=if spE2 lo hi lo2 hi2=0 then (if A=0 then outF x y else (0,0,A)) else (0,0,spE2 lo hi lo2 hi2)):
  Calls Tryz.prog 115 #[.agg #[.float .f64 lo,.float .f64 hi],.agg #[.float .f64 lo2,.float .f64 hi2],.func (.func 120) #[] #[]] w (fR w r):=
 q3q w lo hi lo2 hi2 x y A I K J D C _ (fun E=>Or.inr ⟨rfl,fun w1 B u1 g N O=>(F w1 B u1 g N O E).mono fun _ _ h=>h.t⟩) R S r M
end Go.Proofs.YtohcneeihdkfgaaGreatDoor.EN
namespace Go.Proofs.YtohcneeihdkfgaaGreatDoor.EN
open Go.ChangeShapes Go.WideShapes Go.ChangeAt Go.RowKit
attribute [local go_sem] fu
/-- Two cells written. -/
def put2 (w:World) (b:Nat) (u1 u2:Value):World:=(w.setCell ⟨b,0,none⟩ u1).setCell ⟨b,1,none⟩ u2
/-- What holds between the operations of a region whose operation s stores two values into a block that is there. -/
structure SI (T:Nat→Value→World→Prop) (wE w1:World) (bz s:Nat) (z y:List Value) (L:Nat→Bool) (f:Nat→Value) (w:World):Prop where
 g:G wE w
 oth:∀ b l,Rec w1 b l→b≠bz→Rec w b l
 held:∀ j,L j=true→T j (f j) w
 blk:(L s=false∧Rec w bz z)∨(L s=true∧Rec w bz y)
section
variable {T:Nat→Value→World→Prop} {wE w1 w w':World} {bz s:Nat} {z y:List Value} {L:Nat→Bool} {f:Nat→Value}
theorem SI.step (h:SI T wE w1 bz s z y L f w) (i:Nat) (v:Value) (D:i≠s) (g:G w w') (C:∀ j u,T j u w→T j u w') (hv:T i v w'):SI T wE w1 bz s z y (upd L i true) (upd f i v) w' where
 g:=ab h.g g
 oth:=fun b l A B=>(h.oth b l A B).G g
 held:=jn h.held C hv
 blk:=by
  rw[upd_ne _ _ (bZ D)];rcases h.blk with ⟨A,B⟩|⟨A,B⟩
  ·exact Or.inl ⟨A,B.G g⟩
  ·exact Or.inr ⟨A,B.G g⟩
theorem SI.wr {B z2 y1 A:Value} (h:SI T wE w1 bz s [B,z2] [y1,A] L f w) (v:Value) (E:L s=false) (hle:wE.heap.size≤bz) (F:Rec w bz [B,z2]→∀ j u,T j u w→T j u (put2 w bz y1 A)) (hv:∀ v w,T s v w):SI T wE w1 bz s [B,z2] [y1,A] (upd L s true) (upd f s v) (put2 w bz y1 A):=by
 have D:Rec w bz [B,z2]:=by
  rcases h.blk with ⟨-,k⟩|⟨k,-⟩
  ·exact k
  ·rw[E] at k;cases k
 exact⟨Rec.g2 h.g hle,fun b l I C=>((h.oth b l I C).oth (p:=⟨bz,0,none⟩) _ (bZ C)).oth (p:=⟨bz,1,none⟩) _ (bZ C),jn h.held (F D) (hv _ _),by rw[upd_same];exact Or.inr ⟨rfl,bE D⟩⟩
end
/-- What is known of the values of Add's operations. -/
def KA (B lo hi lo2 hi2:Nat) (r1 r2:Nat) (A:Int):Nat→Value→World→Prop
 |0,v,_=>v= .agg #[.float .f64 lo,.float .f64 hi]|1,v,_=>v= .agg #[.float .f64 lo2,.float .f64 hi2]|2,v,w=>∃ bd,v= .func (.func 197) #[] #[.pointer (some ⟨bd,0,none⟩)]∧Rec w bd [.func (.func B) #[] #[]]
 |3,v,_=>v= .tuple #[.agg #[.float .f64 r1,.float .f64 r2],.int .i64 A]|4,v,_=>v= .agg #[.float .f64 r1,.float .f64 r2]|5,v,_=>v= .int .i64 A|7,v,_=>v= .int .i64 A|_,_,_=>True
theorem KA.last {A lo hi lo2 hi2 r1 r2:Nat} {B:Int} {j:Nat} {v:Value} {w w':World} (C:∀ b u,Rec w b [u]→Rec w' b [u]) (h:KA A lo hi lo2 hi2 r1 r2 B j v w):KA A lo hi lo2 hi2 r1 r2 B j v w':=by
 revert h;unfold KA;split<;>(first|exact fun h=>h|(rintro⟨u,e,h⟩;exact⟨u,e,C _ _ h⟩))
theorem KA.g {A lo hi lo2 hi2 r1 r2:Nat} {B:Int} {w w':World} (g:G w w'):∀ j u,KA A lo hi lo2 hi2 r1 r2 B j u w→KA A lo hi lo2 hi2 r1 r2 B j u w':=fun _ _ h=>h.last (fun _ _ k=>k.G g)
theorem q5C {w:World} {b bz:Nat} {u x y:Value} (h:Rec w b [u]) (k:Rec w bz [x,y]):bz≠b:=by
 rintro rfl;have h1:=h.cell 1;rw[k.cell] at h1;cases h1
theorem KA.put {A lo hi lo2 hi2 r1 r2:Nat} {B:Int} {w:World} {bz:Nat} {D z2 y1 C:Value} (r:Rec w bz [D,z2]):∀ j u,KA A lo hi lo2 hi2 r1 r2 B j u w→KA A lo hi lo2 hi2 r1 r2 B j u (put2 w bz y1 C):=fun _ _ h=>
 h.last (fun _ _ k=>(k.oth (p:=⟨bz,0,none⟩) _ (q5C k r)).oth (p:=⟨bz,1,none⟩) _ (q5C k r))
set_option maxRecDepth 20000 in
set_option maxHeartbeats 2000000 in
theorem q0n (FS:Nat) (w:World) (lo hi lo2 hi2:Nat) (r:Nat×Nat×Int) (J:Nat) (al:(FS=45∧J=117)∨(FS=46∧J=118)∨(FS=47∧J=119))
  (hR:∀ w1 bd,G w w1→Rec w1 bd [.func (.func J) #[] #[]]→Calls Tryz.prog 115 #[.agg #[.float .f64 lo,.float .f64 hi],.agg #[.float .f64 lo2,.float .f64 hi2],.func (.func 197) #[] #[.pointer (some ⟨bd,0,none⟩)]] w1 (fR w1 r)):
  Calls Tryz.prog FS #[.agg #[.float .f64 lo,.float .f64 hi],.agg #[.float .f64 lo2,.float .f64 hi2]] w (fR w r):=by
 have HR:Hid (∀ w1 bd,G w w1→Rec w1 bd [.func (.func J) #[] #[]]→Calls Tryz.prog 115 #[.agg #[.float .f64 lo,.float .f64 hi],.agg #[.float .f64 lo2,.float .f64 hi2],.func (.func 197) #[] #[.pointer (some ⟨bd,0,none⟩)]] w1 (fR w1 r)):=hR;have HA:Hid (∀ w1:World,_):=fun w1=>q2c w1 J;clear hR;obtain⟨r1,r2,c⟩:=r;rcases al with ⟨rfl,I⟩|⟨rfl,I⟩|⟨rfl,I⟩
 all_goals
  rw[I] at HA;have ag:Hid (J=_):=I;clear I
  first|go_enter Tryz.func45,Tryz.ntmps45|go_enter Tryz.func46,Tryz.ntmps46|go_enter Tryz.func47,Tryz.ntmps47
  go_wp2_with fail;obtain⟨w0,af,g0,an,R0,R1,R2⟩:=gf w [.float .f64 lo,.float .f64 hi] [.float .f64 lo2,.float .f64 hi2] [.float .f64 0,.float .f64 0] 72 72 72;rw[af];clear af;refine RV.region_inv 8 0 #[true,true,true,true,true,true,true,true] [some 6,some 7,some 8,some 9,some 10,some 11,none,some 5] (SI (KA J lo hi lo2 hi2 r1 r2 c) w w0 (w.heap.size+2) 6 [.float .f64 0,.float .f64 0] [.float .f64 r1,.float .f64 r2]) eZ eZ rfl eZ eZ ?_ ?_
  ·intro f;exact⟨G.drew g0,fun b l k _=>k.G (ad _).drew,fun j h=>(by cases h),Or.inl ⟨rfl,R2.out.G (ad _).drew⟩⟩
  ·intro A F;simp only[List.range,List.range.loop,du,eH,fG,Act.put,aq,ay,az] at F;refine⟨?_,?_⟩
   ·skip
    refine aC rfl ?_ ?_
    ·intro L f W B E D K C;rw[F f] at C ⊢;have RR:Hid (Rec W w.heap.size [.float .f64 lo,.float .f64 hi]):=B.oth _ _ R0.out eX;obtain⟨M,N,O,R⟩:=fe RR (ad _);go_simp;exact C.out _ _ ⟨_,rfl,SI.step B 0 _ fk (ad _) (KA.g (ad _)) rfl⟩
    refine aC rfl ?_ ?_
    ·intro L f W B E D K C;rw[F f] at C ⊢;have RR:Hid (Rec W (w.heap.size+1) [.float .f64 lo2,.float .f64 hi2]):=B.oth _ _ R1.out eX;obtain⟨M,N,O,R⟩:=fe RR (ad _);go_simp;exact C.out _ _ ⟨_,rfl,SI.step B 1 _ fk (ad _) (KA.g (ad _)) rfl⟩
    refine aC rfl ?_ ?_
    ·intro L f W B E D K C;rw[F f] at C ⊢;go_simp;go_wp2_with (go_at_call 116;refine Calls.mono (P:=Tryz.prog) (HA.out W) ?_;intro e w9 hs;obtain⟨bd,rfl,g9,i,am⟩:=hs);exact C.out _ _ ⟨_,rfl,SI.step B 2 _ fk g9 (KA.g g9) ⟨bd,rfl,by rw[ag.out];exact am⟩⟩
    refine aC rfl ?_ ?_
    ·intro L f W B E D K C;rw[F f] at C ⊢;have e0:f 0= .agg #[.float .f64 lo,.float .f64 hi]:=B.held 0 (D 0 eZ);have e1:f 1= .agg #[.float .f64 lo2,.float .f64 hi2]:=B.held 1 (D 1 eZ);have h2:∃ bd,f 2= .func (.func 197) #[] #[.pointer (some ⟨bd,0,none⟩)]∧Rec W bd [.func (.func J) #[] #[]]:=B.held 2 (D 2 eZ);obtain⟨bd,e2,i⟩:=h2;rw[e0,e1,e2] at C ⊢;clear e0 e1 e2 D;go_simp;go_wp2_with (go_at_call 115;refine Calls.mono (P:=Tryz.prog) (HR.out W bd B.g i) ?_;intro e w9 hs;obtain⟨rfl,g9⟩:=hs);exact C.out _ _ ⟨_,rfl,SI.step B 3 _ fk g9 (KA.g g9) rfl⟩
    refine aC rfl ?_ ?_
    ·intro L f W B E D K C;rw[F f] at C ⊢;have d:f 3= .tuple #[.agg #[.float .f64 r1,.float .f64 r2],.int .i64 c]:=B.held 3 (D 3 eZ);rw[d] at C ⊢;clear d D;go_simp;exact C.out _ _ ⟨_,rfl,SI.step B 4 _ fk (ad _) (KA.g (ad _)) rfl⟩
    refine aC rfl ?_ ?_
    ·intro L f W B E D K C;rw[F f] at C ⊢;have d:f 3= .tuple #[.agg #[.float .f64 r1,.float .f64 r2],.int .i64 c]:=B.held 3 (D 3 eZ);rw[d] at C ⊢;clear d D;go_simp;exact C.out _ _ ⟨_,rfl,SI.step B 5 _ fk (ad _) (KA.g (ad _)) rfl⟩
    refine aC rfl ?_ ?_
    ·intro L f W B E D K C;rw[F f] at C ⊢;have e4:f 4= .agg #[.float .f64 r1,.float .f64 r2]:=B.held 4 (D 4 eZ);have o:Rec W (w.heap.size+2) [.float .f64 0,.float .f64 0]:=by
      rcases B.blk with ⟨-,k⟩|⟨k,-⟩
      ·exact k
      ·rw[E] at k;cases k
     have RZ:Hid (Rec W (w.heap.size+2) [.float .f64 0,.float .f64 0]):=o;have Z:=SI.wr B undef E (Nat.le_add_right _ 2) (fun r=>KA.put r) (fun _ _=>trivial);unfold put2 at Z;have ai:=hi9 Z;rw[e4] at C ⊢;clear D Z B e4 o;obtain⟨S,U,X,Y⟩:=fe RZ (ad _);go_simp;exact C.out _ _ ⟨_,rfl,ai.out⟩
    refine aC rfl ?_ ?_
    ·intro L f W B E D K C;rw[F f] at C ⊢;have e5:f 5= .int .i64 c:=B.held 5 (D 5 eZ);rw[e5] at C ⊢;clear e5 D;go_simp;exact C.out _ _ ⟨_,rfl,SI.step B 7 _ fk (ad _) (KA.g (ad _)) rfl⟩
    exact RV.Ones.nil
   ·skip
    intro f L w3 B E;have e7:f 7= .int .i64 c:=B.held 7 (E 7 fk);have m:Rec w3 (w.heap.size+2) [.float .f64 r1,.float .f64 r2]:=by
     rcases B.blk with ⟨k,-⟩|⟨-,k⟩
     ·rw[E 6 fk] at k;cases k
     ·exact k
    have RZ:=hi9 m;have g9:=B.g;rw[F f,e7];generalize f 0=ap,f 1=bi,f 2=bl,f 3=bm,f 4=bn,f 5=bq,f 6=bs at *;clear B E F e7 m R0 R1 R2 HR HA;refine wpAny_done eZ ?_ _;obtain⟨S,U,X,Y⟩:=fe RZ (ad _);go_wp2_with fail;refine bodyPost_ret (v:= .tuple #[.agg #[.float .f64 r1,.float .f64 r2],.int .i64 c]) (by simp [results,Tryz.results45,go_sem, *]) rfl ?_;exact⟨rfl,g9⟩
theorem q5a (w:World) (lo hi lo2 hi2:Nat) (r:Nat×Nat×Int) (A:Nat) (B:A=117)
  (C:∀ w1 bd,G w w1→Rec w1 bd [.func (.func A) #[] #[]]→Calls Tryz.prog 115 #[.agg #[.float .f64 lo,.float .f64 hi],.agg #[.float .f64 lo2,.float .f64 hi2],.func (.func 197) #[] #[.pointer (some ⟨bd,0,none⟩)]] w1 (fR w1 r)):
  Calls Tryz.prog 45 #[.agg #[.float .f64 lo,.float .f64 hi],.agg #[.float .f64 lo2,.float .f64 hi2]] w (fR w r):=q0n _ w lo hi lo2 hi2 r A (Or.inl ⟨rfl,B⟩) C
theorem q5d (w:World) (lo hi lo2 hi2:Nat) (r:Nat×Nat×Int) (A:Nat) (B:A=118)
  (C:∀ w1 bd,G w w1→Rec w1 bd [.func (.func A) #[] #[]]→Calls Tryz.prog 115 #[.agg #[.float .f64 lo,.float .f64 hi],.agg #[.float .f64 lo2,.float .f64 hi2],.func (.func 197) #[] #[.pointer (some ⟨bd,0,none⟩)]] w1 (fR w1 r)):
  Calls Tryz.prog 46 #[.agg #[.float .f64 lo,.float .f64 hi],.agg #[.float .f64 lo2,.float .f64 hi2]] w (fR w r):=q0n _ w lo hi lo2 hi2 r A (Or.inr (Or.inl ⟨rfl,B⟩)) C
theorem q5b (w:World) (lo hi lo2 hi2:Nat) (r:Nat×Nat×Int) (A:Nat) (B:A=119)
  (C:∀ w1 bd,G w w1→Rec w1 bd [.func (.func A) #[] #[]]→Calls Tryz.prog 115 #[.agg #[.float .f64 lo,.float .f64 hi],.agg #[.float .f64 lo2,.float .f64 hi2],.func (.func 197) #[] #[.pointer (some ⟨bd,0,none⟩)]] w1 (fR w1 r)):
  Calls Tryz.prog 47 #[.agg #[.float .f64 lo,.float .f64 hi],.agg #[.float .f64 lo2,.float .f64 hi2]] w (fR w r):=q0n _ w lo hi lo2 hi2 r A (Or.inr (Or.inr ⟨rfl,B⟩)) C
end Go.Proofs.YtohcneeihdkfgaaGreatDoor.EN
