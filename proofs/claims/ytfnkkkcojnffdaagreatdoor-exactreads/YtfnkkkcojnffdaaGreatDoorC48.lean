/- What is proved here: any text is read alike on both sides, over this seat's translation.
What is proved here: the law on texts of fractions, over this seat's translation. -/
import Derived.Test.YtfnkkkcojnffdaaGreatDoorC1
import Derived.Test.YtfnkkkcojnffdaaGreatDoorC47
import Derived.Test.YtfnkkkcojnffdaaGreatDoorC23
import Derived.Test.YtfnkkkcojnffdaaGreatDoorC3
import Derived.Test.YtfnkkkcojnffdaaGreatDoorC22
namespace Go.Proofs.YtfnkkkcojnffdaaGreatDoor.EN
open Go.ChangeShapes Go.WideShapes Go.ChangeAt Go.RowKit
/-- Both sides read a text alike. -/
def Alike (s:ByteArray) (q:Rat) (c a:Int):Prop:=
 (∀ w,Tab w→P10 w→Calls Tryz.prog 39 #[.string s] w (iE w q c a))∧(∀ w,Calls Tryz.prog 40 #[.string s] w (kR w q c a))∧QB q 250∧(c≠0→q=0)∧(c=0→a=0∧(⟨(qtx q).toArray⟩:ByteArray)=s)
theorem gH {s:ByteArray} {c a:Int} (A:c≠0) (h1:∀ w,Calls Tryz.prog 39 #[.string s] w (iE w 0 c a)) (h2:∀ w,Calls Tryz.prog 40 #[.string s] w (kR w 0 c a)):Alike s 0 c a:=
 ⟨fun w _ _=>h1 w,h2,kB dT,fun _=>rfl,fun h=>absurd h A⟩
theorem jh {s:ByteArray} {g t r u:List UInt8} (C:Tx s (g++(t++r))) (S:Sg g (t++r)) (M:Digs t) (hu:Digs u) (U:s.size≤2000) (R:t≠[]) (h1:u≠[]) (L:(r=[]∧u=[49])∨r=47::u):∃ q c a,Alike s q c a:=by
 refine⟨_,_,_,fun w X Y=>mL w s g t r u C S M hu U R h1 L X Y,fun w=>qx w s g t r u C S M hu U R h1 L,?_,?_,?_⟩
 ·have W:=C.size;rw[ag,ag] at W;have N:u.length≤2000:=by
   rcases L with ⟨-,rfl⟩|rfl
   ·decide
   ·rw[aK] at W;omega
  obtain⟨K,Z⟩:∃ K:Nat,K=125:=⟨_,rfl⟩;have J:=dv_bound (K:=K) dT M dT;have I:=dv_bound (K:=K) dT hu N;have O:(rdZ g t).natAbs<2^(64*K):=by unfold rdZ;rw[fU];exact J
  have E:=gk O dT;have D:QB (((dv 0 u:Nat):Int):Rat) K:=gk (by rw[bM];exact I) dT;split
  ·exact kB dT
  ·split
   ·rename_i B _
    have F:(((dv 0 u:Nat):Int):Rat)≠0:=by
     rw[show (0:Rat)=((0:Int):Rat) from rfl];intro e;rw[Rat.intCast_inj] at e;omega
    have h:=mO F E D;rw[show K+K=250 from by omega] at h;exact h
   ·exact kB dT
 ·intro A;split
  ·rfl
  ·rename_i B
   rw[if_neg B] at A;split
   ·rename_i h
    rw[if_pos h] at A;exact absurd rfl A
   ·rfl
 ·intro A;by_cases B:dv 0 u=0
  ·rw[if_pos B] at A;cases A
  ·rw[if_neg B] at A ⊢;rw[if_neg B];by_cases h:qtx (rdQ g t u)=g++(t++r)
   ·rw[if_pos h];refine⟨rfl,?_⟩;have h2:s.data.toList=g++(t++r):=C;rw[h,← h2]
   ·rw[if_neg h] at A;cases A
theorem alike (s:ByteArray):∃ q c a,Alike s q c a:=by
 by_cases A:2000<s.size
 ·exact⟨0,2,0,gH dT (fun w=>mM w s A) (fun w=>qy w s A)⟩
 have A:s.size≤2000:=by omega
 obtain⟨g,m,M,B⟩:=mU s.data.toList;obtain⟨t,r,rfl,F,J⟩:=gV m;have C:Tx s (g++(t++r)):=M;by_cases E:t=[]
 ·subst E;refine⟨0,1,((g.length+([]:List UInt8).length:Nat):Int),gH dT (fun w=>kc w s g [] r C B F J A (Or.inl rfl)) (fun w=>kE w s _ _ C A (o4 B J))⟩
 cases r with
 |nil=>
  exact jh C B F (u:=[49]) (by intro c I;rw[cF] at I;subst I;decide) A E (by intro h;cases h) (Or.inl ⟨rfl,rfl⟩)
 |cons c r=>
  have K:=J c r rfl;by_cases I:c=47
  ·subst I;obtain⟨u,v,rfl,hu,hv⟩:=gV r;by_cases hb:u=[]∨v≠[]
   ·refine⟨0,1,((g.length+t.length+1+u.length:Nat):Int),gH dT (fun w=>oL w s g t u v C B F hu hv A E hb) (fun w=>kE w s _ _ C A ?_)⟩;rw[kh B F E,kW];rcases hb with rfl|hb
    ·rw[show ([]++v:List UInt8)=v from rfl,nf hv];show (0+1+t.length+g.length,false)=(g.length+t.length+1+0,false)
     congr 1
     omega
    ·by_cases D:u=[]
     ·subst D;rw[show ([]++v:List UInt8)=v from rfl,nf hv];show (0+1+t.length+g.length,false)=(g.length+t.length+1+0,false)
      congr 1
      omega
     ·rw[jV hu D hv,decide_eq_false hb];show (u.length+1+t.length+g.length,false)=(g.length+t.length+1+u.length,false)
      congr 1
      omega
   ·have D:u≠[]:=fun e=>hb (Or.inl e);have L:v=[]:=Classical.byContradiction fun e=>hb (Or.inr e);subst L;rw[bZ] at C B;exact jh C B F hu A E D (Or.inr rfl)
  ·refine⟨0,1,((g.length+t.length:Nat):Int),gH dT (fun w=>kc w s g t (c::r) C B F J A (Or.inr ⟨E,c,r,rfl,I⟩)) (fun w=>kE w s _ _ C A ?_)⟩;rw[kh B F E,nZ K I];show (0+t.length+g.length,false)=(g.length+t.length,false)
   congr 1
   omega
set_option maxHeartbeats 4000000 in
set_option maxRecDepth 20000 in
theorem reads_c (w:World) (s:ByteArray) (hT:Tab w) (hP:P10 w):Calls Tryz.prog 4 #[.string s] w fun r w'=>r= .returned (.bool true)∧G w w':=by
 obtain⟨q,c,a,hA,hB,k,ca,bz⟩:=alike s;have H3:=hi9 (q0U w hT);have ap:Hid (∀ M,G w M→_):=fun M g=>hA M (hT.G g) (hP.G g);have al:Hid (∀ M,_):=fun M=>hB M;have W:Hid (∀ M v,G w M→QIs M v q→_):=fun M v g h=>nK M v q 250 dT dT h k (hP.G g);have am:Hid (∀ M p,p<M.heap.size→RIs M p q→_):=fun M p k1 k2=>qC M p q (2*250) dT dT (qb32 k).1 (qb32 k).2 k2 k1;have y:Hid (c≠0→(⟨(qtx q).toArray⟩:ByteArray)=⟨#[48]⟩):=fun h=>by rw[ca h,qw]
 have o:Hid (c=0→a=0∧(⟨(qtx q).toArray⟩:ByteArray)=s):=bz;generalize (⟨(qtx q).toArray⟩:ByteArray)=S at *;clear hA hB k ca bz hT hP;go_enter Tryz.func4,Tryz.ntmps4;go_wp2_with fail;refine dS H3.out ?_;rintro r M ⟨rfl,g1⟩;clear H3;go_wp2_with fail;refine dS (ap.out _ g1) ?_;intro r w2 hs;obtain⟨v,rfl,g2,hv⟩:=hs;have HV:Hid (QIs w2 v q):=hv;obtain⟨z1,z2,z3,z4,z5,z6,rfl,-,-⟩:=hv;generalize decide (Rat.num q<0)=tq at *;have bq:=aa g1 g2;clear ap g1 g2;go_wp2_with fail;obtain⟨w3,cc,g3,cd,R0,R1⟩:=fW w2 [.bool tq,.slice z1 z2 z3,.slice z4 z5 z6] [.int .i64 c,.int .i64 a] 29 65;rw[cc];clear cc;have RN:Hid (Rec _ _ _):=R0;have RF:Hid (Rec _ _ _):=R1;have i:=aa bq g3;have Z:Hid (QIs w3 _ q):=HV.out.G g3;generalize ce:w2.heap.size=ci at *;clear R0 R1 bq g3 HV ce;refine dS (al.out _) ?_;intro r m hs;rcases hs with ⟨hc,rfl,g4⟩|⟨hc,p,rfl,g4,ao,cb⟩
 ·have cl:(c==0)=false:=by rw[beq_eq_false_iff_ne];exact hc
  have hS:=y.out hc;have X:Hid (QIs m _ q):=Z.out.G g4;have O:=aa i g4;have d:Hid (Rec _ _ _):=bs RN.out (g4);have an:Hid (Rec _ _ _):=bs RF.out (g4);subst hS;clear o y am Z RN RF i g4 hc al cd;have N:=(af m).alloc (.cells #[.int .i64 c,.int .i64 a] 65);have U:Hid (QIs (m.alloc (.cells #[.int .i64 c,.int .i64 a] 65)) (.agg #[.bool tq,.slice z1 z2 z3,.slice z4 z5 z6]) q):=X.out.G N;have R:=hi9 (W.out _ _ (aa O N) U.out);have j:=aa O N;obtain⟨A,B,C,D,E,F⟩:=ev d (N);obtain⟨I,J,K,L⟩:=eU an (N);clear W X U N O;go_wp2_with fail;refine dS R.out ?_;rintro e w6 ⟨rfl,g6⟩;go_wp2_with fail;go_ret;exact⟨rfl,aa j g6⟩
 ·subst hc;obtain⟨ha,hS⟩:=o.out rfl;subst ha;subst hS;have X:Hid (QIs m _ q):=Z.out.G g4;have O:=aa i g4;have d:Hid (Rec _ _ _):=bs RN.out (g4);have an:Hid (Rec _ _ _):=bs RF.out (g4);clear o y Z RN RF i g4 al cd;have N:=(af m).alloc (.cells #[.int .i64 0,.int .i64 0] 65);have U:Hid (QIs (m.alloc (.cells #[.int .i64 0,.int .i64 0] 65)) (.agg #[.bool tq,.slice z1 z2 z3,.slice z4 z5 z6]) q):=X.out.G N;have Y:Hid (p<(m.alloc (.cells #[.int .i64 0,.int .i64 0] 65)).heap.size∧RIs (m.alloc (.cells #[.int .i64 0,.int .i64 0] 65)) p q):=⟨G.lt N ao,cb.G ao N⟩;have R:=hi9 (W.out _ _ (aa O N) U.out);have j:=aa O N;obtain⟨A,B,C,D,E,F⟩:=ev d (N);obtain⟨I,J,K,L⟩:=eU an (N);clear X O ao cb;go_wp2_with fail;refine dS R.out ?_;rintro e w6 ⟨rfl,g6⟩;have bi:=hi9 (am.out w6 p (G.lt g6 Y.out.1) (Y.out.2.G Y.out.1 g6));have bn:Hid (QIs w6 (.agg #[.bool tq,.slice z1 z2 z3,.slice z4 z5 z6]) q):=U.out.G g6;have bu:=aa j g6;have gC:=aa N g6;clear R Y am U j g6 N;go_wp2_with fail;refine dS bi.out ?_;rintro e w7 ⟨rfl,g7⟩;have bv:=aa bu g7;have bl:=hi9 (W.out _ _ bv (bn.out.G g7));have gD:=aa gC g7;clear A B C D E F I J K L W bi bn bu g7 gC;obtain⟨A,B,C,D,E,F⟩:=ev d (gD);go_wp2_with fail;refine dS bl.out ?_;rintro e w8 ⟨rfl,g8⟩;go_wp2_with fail;go_ret;exact⟨rfl,aa bv g8⟩
end Go.Proofs.YtfnkkkcojnffdaaGreatDoor.EN
