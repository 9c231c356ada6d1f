/- What is proved here: the reference's reader of fractions: what it reads, over this seat's translation. -/
import Derived.Test.YtfnkkkcojnffdaaGreatDoorC23
import Derived.Test.YtfnkkkcojnffdaaGreatDoorC1
import Derived.Test.YtfnkkkcojnffdaaGreatDoorC8
import Derived.Test.YtfnkkkcojnffdaaGreatDoorC3
import Derived.Test.YtfnkkkcojnffdaaGreatDoorC22
import Derived.Test.YtfnkkkcojnffdaaGreatDoorC44
import Derived.Test.YtfnkkkcojnffdaaGreatDoorC46
import Derived.Test.YtfnkkkcojnffdaaGreatDoorC45
namespace Go.Proofs.YtfnkkkcojnffdaaGreatDoor.EN
open Go.ChangeShapes Go.WideShapes Go.ChangeAt Go.RowKit
theorem ph {w J:World} {v:Value} {n b:Nat} {l:List Value} (h:BN.Num w v n) (r:Rec w b l) (K:∀ x∈l,∀ i,x≠ .int .u32 i) (g:GX b w J):BN.Num J v n:=by
 obtain⟨m,⟨M,L⟩,F,hv⟩:=h;refine⟨m,⟨M,?_⟩,F,hv⟩;rcases L with B|⟨C,o,c,rfl,E,hb,I⟩
 ·exact Or.inl B
 ·by_cases A:m=[]
  ·subst A;exact Or.inl ⟨rfl,_,c,rfl⟩
  ·have D:C≠b:=by
    intro e;subst e;have B:=I 0 (bD.2 A);rw[r.cell] at B;exact K _ (bH B) _ rfl
   refine Or.inr ⟨C,o,c,rfl,E,ad hb g.size,fun i hi=> ?_⟩;rw[World.cell?_of_block (g.block C hb (fun e=>D (bp e)))];exact I i hi
theorem nC {w B:World} {p o b:Nat} {s:Int} {l:List Value} (h:IntIs w p o s) (E:p<w.heap.size) (A:p≠b) (r:Rec w b l) (D:∀ x∈l,∀ i,x≠ .int .u32 i) (g:GX b w B):IntIs B p o s:=by
 obtain⟨n,v,a,⟨c1,C,f1,f2⟩,hv,h1,h2⟩:=h;have e:=g.block p E (fun e=>A (bp e));exact⟨n,v,a,⟨by rw[World.cell?_of_block e];exact c1,by rw[World.cell?_of_block e];exact C,by rw[World.frozen?_of_block e];exact f1,by rw[World.frozen?_of_block e];exact f2⟩,ph hv r D g,h1,h2⟩
theorem lP {W:World} {p b:Nat} {q:Rat} {x y:Int} (u1 u2:Value) (h:RIs W p q) (C:p<W.heap.size) (r:Rec W b [.int .i64 x,.int .i64 y]) (A:p≠b):RIs ((W.setCell ⟨b,0,none⟩ u1).setCell ⟨b,1,none⟩ u2) p q:=by
 have B:∀ z∈[Value.int .i64 x,Value.int .i64 y],∀ i,z≠ .int .u32 i:=by
  intro z D i e;rw[bC,cF] at D;rcases D with rfl|rfl<;>injection e with E F<;>cases E
 have g:GX b W ((W.setCell ⟨b,0,none⟩ u1).setCell ⟨b,1,none⟩ u2):=GX.set (GX.set (GX.of (af W)) u1) u2;exact⟨nC h.1 C A r B g,nC h.2 C A r B g⟩
theorem p6 {g t r u:List UInt8} (B:Sg g (t++r)) (D:Digs t) (A:t≠[]) (hu:Digs u) (h1:u≠[]) (C:(r=[]∧u=[49])∨r=47::u):aut 0 (g++(t++r))=((g++(t++r)).length,true):=by
 rw[kh B D A];rcases C with ⟨rfl,rfl⟩|rfl
 ·rw[p4,ag,ag];show (0+t.length+g.length,true)=(g.length+(t.length+0),true);rw[az,aP,bt]
 ·rw[kW,show u=u++[] from(bZ u).symm,jV hu h1 (fun _ _ h=>by cases h),decide_eq_true rfl,bZ,ag,ag,aK];show (u.length+1+t.length+g.length,true)=(g.length+(t.length+(u.length+1)),true);rw[bt (u.length+1) t.length,bt _ g.length]
set_option maxHeartbeats 8000000 in
set_option maxRecDepth 20000 in
theorem qx (w:World) (s:ByteArray) (g t r u:List UInt8) (hs:Tx s (g++(t++r))) (hg:Sg g (t++r)) (ht:Digs t) (hu:Digs u) (hn:s.size≤2000) (h0:t≠[]) (h1:u≠[]) (hr:(r=[]∧u=[49])∨r=47::u):
  Calls Tryz.prog 40 #[.string s] w (kR w (if dv 0 u=0 then 0 else if qtx (rdQ g t u)=g++(t++r) then rdQ g t u else 0) (if dv 0 u=0 then 5 else if qtx (rdQ g t u)=g++(t++r) then 0 else 6) (if dv 0 u=0 then ((g.length+t.length+1:Nat):Int) else 0)):=by
 obtain⟨K,C⟩:∃ K:Nat,K=125:=⟨_,rfl⟩;obtain⟨AK,oj⟩:∃ AK,AK=(g++(t++r)).length:=⟨_,rfl⟩;obtain⟨AB,mv⟩:∃ AB,AB=true:=⟨_,rfl⟩;have t0:decide ((2000:Int)<(s.size:Int))=false:=decide_eq_false dT;have HU:Hid (∀ O ba bb,MapIs O ba (stepL.map jI)→MapIs O bb ([2,4].map endV)→Calls Tryz.prog 93 #[.string s,.func (.func 92) #[] #[],.map (some ba),.map (some bb)] O fun e w'=>e= .returned (.tuple #[.int .i64 (AK:Int),.bool AB])∧G O w'):=fun O ba bb h2 h3=>by
  have h:=nT O s _ hs hn ba bb h2 h3;rw[p6 hg ht h0 hu h1 hr] at h;rw[mv,oj];exact h
 have jx:Hid (AB=true):=mv;clear oj mv;have hz:=hs.size;rw[ag,ag] at hz;have ng:u.length≤2000:=by
  rcases hr with ⟨-,rfl⟩|rfl
  ·decide
  ·rw[aK] at hz;omega
 have pa:=dv_bound (K:=K) dT ht dT;have nd:=dv_bound (K:=K) dT hu ng;have nl:(rdZ g t).natAbs<2^(64*K):=by unfold rdZ;rw[fU];exact pa
 have mp:32*(2*K)=64*K:=by omega
 have oy:(((dv 0 u:Nat):Int):Rat)=0↔dv 0 u=0:=by
  rw[show (0:Rat)=((0:Int):Rat) from rfl,Rat.intCast_inj];omega
 have ox:=gk nl dT;have ov:QB (((dv 0 u:Nat):Int):Rat) K:=gk (by rw[bM];exact nd) dT;have hm:Hid (dv 0 u≠0→∀ O bz pn pd,Rec O bz [.bool false,.slice none 0 0,.bool false,.slice none 0 0]→pn<O.heap.size→pd<O.heap.size→IntIs O pn 0 (rdZ g t)→IntIs O pd 0 (dv 0 u:Int)→Calls Tryz.prog 43 #[.pointer (some ⟨bz,0,none⟩),.pointer (some ⟨pn,0,none⟩),.pointer (some ⟨pd,0,none⟩)] O (SetRat O bz (rdQ g t u))):=fun hd O bz pn pd k1 k2 k3 k4 k5=>
  lQ O bz pn 0 pd 0 (rdZ g t) (dv 0 u:Int) (2*K) dT (by rw[mp];exact nl) (by rw[bM,mp];exact nd) dT k2 k3 k1 k4 k5
 have hj:Hid (dv 0 u≠0→∀ O p,p<O.heap.size→RIs O p (rdQ g t u)→Calls Tryz.prog 9 #[.pointer (some ⟨p,0,none⟩)] O fun e w'=>e= .returned (.string ⟨(qtx (rdQ g t u)).toArray⟩)∧G O w'):=fun hd O p k1 k2=>by
  have hq:=mO (fun e=>hd (oy.1 e)) ox ov;exact qC O p (rdQ g t u) (2*(K+K)) dT dT (qb32 hq).1 (qb32 hq).2 k2 k1
 have bl:Hid (qtx (rdQ g t u)=g++(t++r)↔(⟨(qtx (rdQ g t u)).toArray⟩:ByteArray)=s):=by
  show _↔_;have h2:s.data.toList=g++(t++r):=hs;constructor
  ·intro h;rw[h,← h2]
  ·intro h;rw[← h2,← h]
 have kb:Hid (∀ w0 O b A,Tx A (g++t)→A.size≤2000→G w0 O→NI w0 O b 0→Calls Tryz.prog 95 #[.pointer (some ⟨b,0,none⟩),.string A,.int .i64 10] O fun e w'=>e= .returned (.tuple #[.pointer (some ⟨b,0,none⟩),.bool true])∧G w0 w'∧NI w0 w' b (rdZ g t)∧O.heap.size≤w'.heap.size∧∀ p2 s2,p2≠b→NI w0 O p2 s2→NI w0 w' p2 s2):=fun w0 O b A k1 k2 k3 k4=>
  j0 w0 O k3 b k4 A g t k1 (by
   rcases hg with h|⟨h,h2⟩
   ·exact Or.inl h
   ·exact Or.inr ⟨h,fun r2 e=>h2 (r2++r) (by rw[e];rfl)⟩) ht h0 k2
 have lk:Hid (∀ w0 O b B,Tx B u→B.size≤2000→G w0 O→NI w0 O b 0→Calls Tryz.prog 95 #[.pointer (some ⟨b,0,none⟩),.string B,.int .i64 10] O fun e w'=>e= .returned (.tuple #[.pointer (some ⟨b,0,none⟩),.bool true])∧G w0 w'∧NI w0 w' b (dv 0 u:Int)∧O.heap.size≤w'.heap.size∧∀ p2 s2,p2≠b→NI w0 O p2 s2→NI w0 w' p2 s2):=fun w0 O b B k1 k2 k3 k4=>
  j0 w0 O k3 b k4 B [] u k1 (Or.inr ⟨rfl,fun r2 e=>by
   have h:=isDig_iff.1 (hu 45 (by rw[e];exact bS ..));revert h;decide⟩) hu h1 k2
 have dl:(47:UInt8)∉g++t:=by
  intro h;rcases cL.1 h with h|h
  ·rcases hg with e|⟨e,-⟩
   ·rw[e] at h;revert h;decide
   ·rw[e] at h;cases h
  ·exact q1C ht h
 generalize hZ:rdZ g t=Z at *;generalize hQ:rdQ g t u=QQ at *;generalize I:dv 0 u=D at *;generalize hS:(⟨(qtx QQ).toArray⟩:ByteArray)=S at *;obtain⟨RQ,RC,RA,al,e1,U,e3⟩:∃ (RQ:Rat) (RC RA:Int),((D=0∧RQ=0∧RC=5∧RA=((g.length+t.length+1:Nat):Int))∨(D≠0∧qtx QQ=g++(t++r)∧RQ=QQ∧RC=0∧RA=0)∨(D≠0∧¬ qtx QQ=g++(t++r)∧RQ=0∧RC=6∧RA=0))∧
   (if D=0 then (0:Rat) else if qtx QQ=g++(t++r) then QQ else 0)=RQ∧(if D=0 then (5:Int) else if qtx QQ=g++(t++r) then 0 else 6)=RC∧(if D=0 then ((g.length+t.length+1:Nat):Int) else 0)=RA:=by
  refine⟨_,_,_,?_,rfl,rfl,rfl⟩;by_cases h:D=0
  ·rw[if_pos h,if_pos h,if_pos h];exact Or.inl ⟨h,rfl,rfl,rfl⟩
  ·rw[if_neg h,if_neg h,if_neg h];by_cases h2:qtx QQ=g++(t++r)
   ·rw[if_pos h2,if_pos h2];exact Or.inr (Or.inl ⟨h,h2,rfl,rfl,rfl⟩)
   ·rw[if_neg h2,if_neg h2];exact Or.inr (Or.inr ⟨h,h2,rfl,rfl,rfl⟩)
 rw[e1,U,e3];clear e1 U e3;have li:Hid (∀ O,_):=fun O=>kD O 6 0;have ca:=hi9 al;clear al pa nd nl mp oy ox ov;rcases hr with ⟨rfl,rfl⟩|rfl
 ·have oo:D=1:=by rw[← I];rfl
  have lg:Hid (D=1):=oo;have dr:Tx s (g++t):=by
   have h:Tx s (g++(t++[])):=hs;rw[bZ] at h;exact h
  have bu:Hid (∀ O,_):=fun O=>q1q O s (g++t) dr dl;have hl:Hid (∀ w0 O b,G w0 O→NI w0 O b 0→_):=fun w0 O b k3 k4=>kb.out w0 O b s dr hn k3 k4;have ep:Hid (∀ O,Calls Tryz.prog 44 #[.int .i64 1] O (RetI O 1)):=fun O=>mH O 1 dT;clear dr hs hg ht hu h0 h1 hz ng dl hZ hQ I kb lk C oo;go_enter Tryz.func40,Tryz.ntmps40;go_wp2_with fail;obtain⟨w0,jp,g0,rf,R0⟩:=eD w [.int .i64 0,.int .i64 0] 65;rw[jp];clear jp;refine RV.region_inv 28 0 #[true,true,true,true,true,true,true,true,true,true,true,true,true,true,true,true,true,true,true,true,true,true,true,true,true,true,true,true] [some 19,some 20,some 21,some 22,none,some 23,none,some 24,none,some 25,none,some 26,none,some 27,none,some 28,none,some 29,some 30,none,none,some 31,some 32,some 18,some 33,some 34,some 5,some 6] (MI s AK AB w0) dV dV rfl dV dV ?_ ?_
  ·intro f;exact⟨(af _).drew,(fun j h=>(by cases h)),⟨(fun h=>by cases h),(fun h=>by cases h),(fun _ _ h=>by cases h)⟩,⟨(fun h=>by cases h),(fun h=>by cases h),(fun _ _ h=>by cases h)⟩,(fun h=>by cases h)⟩
  ·intro A R;simp only[List.range,List.range.loop,dB,List.map_nil,eY,Act.put,aA,aI,aJ] at R;refine⟨?_,?_⟩
   ·skip
    refine ar rfl ?_ ?_
    ·intro L f W E N I K C;rw[R f] at C ⊢;go_simp;exact C.out _ _ ⟨_,rfl,E.step 0 _ ey (af _) rfl⟩
    refine ar rfl ?_ ?_
    ·intro L f W E N I K C;rw[R f] at C ⊢;go_simp;exact C.out _ _ ⟨_,rfl,E.step 1 _ ey (af _) rfl⟩
    refine ar rfl ?_ ?_
    ·intro L f W E N I K C;rw[R f] at C ⊢;go_simp;exact C.out _ _ ⟨_,rfl,E.mkA N⟩
    refine ar rfl ?_ ?_
    ·intro L f W E N I K C;rw[R f] at C ⊢;go_simp;exact C.out _ _ ⟨_,rfl,E.step 3 _ ey (af _) rfl⟩
    refine ar rfl ?_ ?_
    ·intro L f W E N I K C;rw[R f] at C ⊢;obtain⟨p,o,U,F,J⟩:=E.putA (i:=4) (a:=0) (b:=1) (q:=1) ey N (I 2 dV) undef trivial;have X:f 3=kp 0 1:=E.held 3 (I 3 dV);have hr:(Instr.mapUpdate 111 (.map (some p)) (kp 0 1) (.int .i64 1)).run Tryz.prog W=_:=F;have M:=hi9 J;rw[U,X] at C ⊢;clear J E I U X F;go_simp;exact C.out _ _ ⟨_,rfl,M.out⟩
    refine ar rfl ?_ ?_
    ·intro L f W E N I K C;rw[R f] at C ⊢;go_simp;exact C.out _ _ ⟨_,rfl,E.step 5 _ ey (af _) rfl⟩
    refine ar rfl ?_ ?_
    ·intro L f W E N I K C;rw[R f] at C ⊢;obtain⟨p,o,U,F,J⟩:=E.putA (i:=6) (a:=0) (b:=2) (q:=2) ey N (I 2 dV) undef trivial;have X:f 5=kp 0 2:=E.held 5 (I 5 dV);have hr:(Instr.mapUpdate 111 (.map (some p)) (kp 0 2) (.int .i64 2)).run Tryz.prog W=_:=F;have M:=hi9 J;rw[U,X] at C ⊢;clear J E I U X F;go_simp;exact C.out _ _ ⟨_,rfl,M.out⟩
    refine ar rfl ?_ ?_
    ·intro L f W E N I K C;rw[R f] at C ⊢;go_simp;exact C.out _ _ ⟨_,rfl,E.step 7 _ ey (af _) rfl⟩
    refine ar rfl ?_ ?_
    ·intro L f W E N I K C;rw[R f] at C ⊢;obtain⟨p,o,U,F,J⟩:=E.putA (i:=8) (a:=1) (b:=2) (q:=2) ey N (I 2 dV) undef trivial;have X:f 7=kp 1 2:=E.held 7 (I 7 dV);have hr:(Instr.mapUpdate 111 (.map (some p)) (kp 1 2) (.int .i64 2)).run Tryz.prog W=_:=F;have M:=hi9 J;rw[U,X] at C ⊢;clear J E I U X F;go_simp;exact C.out _ _ ⟨_,rfl,M.out⟩
    refine ar rfl ?_ ?_
    ·intro L f W E N I K C;rw[R f] at C ⊢;go_simp;exact C.out _ _ ⟨_,rfl,E.step 9 _ ey (af _) rfl⟩
    refine ar rfl ?_ ?_
    ·intro L f W E N I K C;rw[R f] at C ⊢;obtain⟨p,o,U,F,J⟩:=E.putA (i:=10) (a:=2) (b:=2) (q:=2) ey N (I 2 dV) undef trivial;have X:f 9=kp 2 2:=E.held 9 (I 9 dV);have hr:(Instr.mapUpdate 111 (.map (some p)) (kp 2 2) (.int .i64 2)).run Tryz.prog W=_:=F;have M:=hi9 J;rw[U,X] at C ⊢;clear J E I U X F;go_simp;exact C.out _ _ ⟨_,rfl,M.out⟩
    refine ar rfl ?_ ?_
    ·intro L f W E N I K C;rw[R f] at C ⊢;go_simp;exact C.out _ _ ⟨_,rfl,E.step 11 _ ey (af _) rfl⟩
    refine ar rfl ?_ ?_
    ·intro L f W E N I K C;rw[R f] at C ⊢;obtain⟨p,o,U,F,J⟩:=E.putA (i:=12) (a:=2) (b:=3) (q:=3) ey N (I 2 dV) undef trivial;have X:f 11=kp 2 3:=E.held 11 (I 11 dV);have hr:(Instr.mapUpdate 111 (.map (some p)) (kp 2 3) (.int .i64 3)).run Tryz.prog W=_:=F;have M:=hi9 J;rw[U,X] at C ⊢;clear J E I U X F;go_simp;exact C.out _ _ ⟨_,rfl,M.out⟩
    refine ar rfl ?_ ?_
    ·intro L f W E N I K C;rw[R f] at C ⊢;go_simp;exact C.out _ _ ⟨_,rfl,E.step 13 _ ey (af _) rfl⟩
    refine ar rfl ?_ ?_
    ·intro L f W E N I K C;rw[R f] at C ⊢;obtain⟨p,o,U,F,J⟩:=E.putA (i:=14) (a:=3) (b:=2) (q:=4) ey N (I 2 dV) undef trivial;have X:f 13=kp 3 2:=E.held 13 (I 13 dV);have hr:(Instr.mapUpdate 111 (.map (some p)) (kp 3 2) (.int .i64 4)).run Tryz.prog W=_:=F;have M:=hi9 J;rw[U,X] at C ⊢;clear J E I U X F;go_simp;exact C.out _ _ ⟨_,rfl,M.out⟩
    refine ar rfl ?_ ?_
    ·intro L f W E N I K C;rw[R f] at C ⊢;go_simp;exact C.out _ _ ⟨_,rfl,E.step 15 _ ey (af _) rfl⟩
    refine ar rfl ?_ ?_
    ·intro L f W E N I K C;rw[R f] at C ⊢;obtain⟨p,o,U,F,J⟩:=E.putA (i:=16) (a:=4) (b:=2) (q:=4) ey N (I 2 dV) undef trivial;have X:f 15=kp 4 2:=E.held 15 (I 15 dV);have hr:(Instr.mapUpdate 111 (.map (some p)) (kp 4 2) (.int .i64 4)).run Tryz.prog W=_:=F;have M:=hi9 J;rw[U,X] at C ⊢;clear J E I U X F;go_simp;exact C.out _ _ ⟨_,rfl,M.out⟩
    refine ar rfl ?_ ?_
    ·intro L f W E N I K C;rw[R f] at C ⊢;have Y:∀ y∈insA,L y.1=true:=by
      intro y hy;have h:=fI y hy;simp only[bC,cS,or_false] at h;rcases h with h|h|h|h|h|h|h<;>rw[h]<;>exact I _ dV
     have M:=hi9 (E.mvA (I 2 dV) Y);clear Y E I;go_simp;exact C.out _ _ ⟨_,rfl,M.out⟩
    refine ar rfl ?_ ?_
    ·intro L f W E N I K C;rw[R f] at C ⊢;go_simp;exact C.out _ _ ⟨_,rfl,E.mkB N⟩
    refine ar rfl ?_ ?_
    ·intro L f W E N I K C;rw[R f] at C ⊢;obtain⟨p,o,U,F,J⟩:=E.putB (i:=19) (a:=2) ey N (I 18 dV) undef trivial;have hr:(Instr.mapUpdate 112 (.map (some p)) (.int .i64 2) (.int .i64 1)).run Tryz.prog W=_:=F;have M:=hi9 J;rw[U] at C ⊢;clear J E I U F;go_simp;exact C.out _ _ ⟨_,rfl,M.out⟩
    refine ar rfl ?_ ?_
    ·intro L f W E N I K C;rw[R f] at C ⊢;obtain⟨p,o,U,F,J⟩:=E.putB (i:=20) (a:=4) ey N (I 18 dV) undef trivial;have hr:(Instr.mapUpdate 112 (.map (some p)) (.int .i64 4) (.int .i64 1)).run Tryz.prog W=_:=F;have M:=hi9 J;rw[U] at C ⊢;clear J E I U F;go_simp;exact C.out _ _ ⟨_,rfl,M.out⟩
    refine ar rfl ?_ ?_
    ·intro L f W E N I K C;rw[R f] at C ⊢;have Y:∀ y∈insB,L y.1=true:=by
      intro y hy;have h:=fJ y hy;simp only[bC,cS,or_false] at h;rcases h with h|h<;>rw[h]<;>exact I _ dV
     have M:=hi9 (E.mvB (I 18 dV) Y);clear Y E I;go_simp;exact C.out _ _ ⟨_,rfl,M.out⟩
    refine ar rfl ?_ ?_
    ·intro L f W E N I K C;rw[R f] at C ⊢;have e0:f 0= .string s:=E.held 0 (I 0 dV);have e1:f 1= .func (.func 92) #[] #[]:=E.held 1 (I 1 dV);obtain⟨ba,bb,ea,eb,ha,hb⟩:=E.maps (I 17 dV) (I 21 dV);have HC:=hi9 (HU.out W ba bb ha hb);have M:Hid (MI s AK AB w0 L f W):=E;rw[e0,e1,ea,eb] at C ⊢;clear e0 e1 ea eb ha hb E I;go_simp;go_wp2_with (go_at_call 93;refine dS HC.out ?_;intro e w9 hs;obtain⟨rfl,g9⟩:=hs);exact C.out _ _ ⟨_,rfl,M.out.step 22 _ ey g9 rfl⟩
    refine ar rfl ?_ ?_
    ·intro L f W E N I K C;rw[R f] at C ⊢;have lm:f 22= .tuple #[.int .i64 (AK:Int),.bool AB]:=E.held 22 (I 22 dV);rw[lm] at C ⊢;go_simp;exact C.out _ _ ⟨_,rfl,E.step 23 _ ey (af _) rfl⟩
    refine ar rfl ?_ ?_
    ·intro L f W E N I K C;rw[R f] at C ⊢;have cn:f 23= .tuple #[.int .i64 (AK:Int),.bool AB]:=E.held 23 (I 23 dV);rw[cn] at C ⊢;go_simp;exact C.out _ _ ⟨_,rfl,E.step 24 _ ey (af _) rfl⟩
    refine ar rfl ?_ ?_
    ·intro L f W E N I K C;rw[R f] at C ⊢;have cn:f 23= .tuple #[.int .i64 (AK:Int),.bool AB]:=E.held 23 (I 23 dV);rw[cn] at C ⊢;go_simp;exact C.out _ _ ⟨_,rfl,E.step 25 _ ey (af _) rfl⟩
    refine ar rfl ?_ ?_
    ·intro L f W E N I K C;rw[R f] at C ⊢;have ls:f 24= .int .i64 (AK:Int):=E.held 24 (I 24 dV);rw[ls] at C ⊢;go_simp;exact C.out _ _ ⟨_,rfl,E.step 26 _ ey (af _) rfl⟩
    refine ar rfl ?_ ?_
    ·intro L f W E N I K C;rw[R f] at C ⊢;have lw:f 25= .bool AB:=E.held 25 (I 25 dV);rw[lw] at C ⊢;go_simp;exact C.out _ _ ⟨_,rfl,E.step 27 _ ey (af _) rfl⟩
    exact RV.Ones.nil
   ·skip
    intro f L w3 E N;have hp:f 26= .int .i64 (AK:Int):=E.held 26 (N 26 ey);have hw:f 27= .bool AB:=E.held 27 (N 27 ey);have g3:=E.g;rw[R f,hp,hw];generalize f 0=rh,f 1=ri,f 2=rj,f 3=rk,f 4=rl,f 5=rm,f 6=rn,f 7=rp,f 8=rq,f 9=rr,f 10=pi,f 11=pm,f 12=po,f 13=pp,f 14=ps,f 15=pu,f 16=pv,f 17=px,f 18=pz,f 19=qa,f 20=qb,f 21=qq,f 22=qs,f 23=qt,f 24=ra,f 25=rb at *;clear E N R hp hw;refine wpAny_done dV ?_ _;obtain rfl:AB=true:=jx.out;clear HU jx;go_wp2_with fail;refine dS (bu.out _) ?_;rintro e W1 ⟨rfl,k1⟩;have ci:NI w3 (W1.alloc (.cells #[.bool false,.slice none 0 0] 43)) W1.heap.size 0:=NI.new k1 _;have ce:=k1.alloc (.cells #[.bool false,.slice none 0 0] 43);have bq:=hi9 (hl.out w3 _ W1.heap.size ce ci);clear bu hl ci ce k1;go_wp2_with fail;refine dS bq.out ?_;rintro e W2 ⟨rfl,dq,it,-,-⟩;have bv:Hid (NI w3 W2 W1.heap.size Z):=it;generalize W1.heap.size=pn at *;clear bq it;go_wp2_with fail;refine dS (ep.out _) ?_;rintro e W5 ⟨pd,rfl,k3,k4,k5,k6⟩;have hx:=aa dq k3;have fv:Hid (NI w3 W5 pn Z):=bv.out.G k3;have cl:Hid (NI w3 W5 pd (D:Int)):=⟨ch dq.size k4,k5,by rw[lg.out];exact k6⟩;clear ep k3 k4 k5 k6 dq bv;have ho:=hi9 (nN W5 pd 0 (D:Int) cl.out.2.2);go_wp2_with fail;refine dS ho.out ?_;rintro e W6 ⟨rfl,g6⟩;have cd:=aa hx g6;have ap:Hid (NI w3 W6 pn Z):=fv.out.G g6;have ao:Hid (NI w3 W6 pd (D:Int)):=cl.out.G g6;clear ho fv cl hx g6;rcases ca.out with ⟨I,rfl,rfl,rfl⟩|al
    ·have h9:=lg.out;omega
    ·clear lg;have am:=hi9 al;have I:D≠0:=by
      rcases al with ⟨h1,-⟩|⟨h1,-⟩
      ·exact h1
      ·exact h1
     have re:((D:Int).sign==0)=false:=by rw[beq_eq_false_iff_ne];intro e;rw[Int.sign_eq_zero_iff_zero] at e;omega
     have cc:Hid _:=hm.out I;have cb:Hid _:=hj.out I;generalize (D:Int).sign=sd at *;clear ca hm hj al I;have dk:Rec (W6.alloc (.cells #[.bool false,.slice none 0 0,.bool false,.slice none 0 0] 45)) W6.heap.size [.bool false,.slice none 0 0,.bool false,.slice none 0 0]:=⟨_,by simp only[World.alloc];exact cQ⟩;have ga:=(af W6).alloc (.cells #[.bool false,.slice none 0 0,.bool false,.slice none 0 0] 45);have hk:=hi9 (cc.out _ W6.heap.size pn pd dk (ad ap.out.2.1 ga.size) (ad ao.out.2.1 ga.size) ((ap.out.G ga).2.2) ((ao.out.G ga).2.2));have ds:Hid (W6.heap.size<(W6.alloc (.cells #[.bool false,.slice none 0 0,.bool false,.slice none 0 0] 45)).heap.size):=dk.lt;have ib:=aa cd ga;have em:Hid (w3.heap.size≤W6.heap.size):=cd.size;clear dk ga cc ap ao cd;go_wp2_with fail;refine dS hk.out ?_;intro e W7 jj;obtain⟨pr,rfl,ia,hle,cx,cz⟩:=SetRat.ret ib em.out ds.out jj;have hc:Hid (RIs W7 pr QQ):=cz;have bn:Hid (w3.heap.size≤pr∧pr<W7.heap.size):=⟨hle,cx⟩;have gm:=hi9 (cb.out W7 pr cx cz);clear hk jj hle cx cz ib em ds cb;go_wp2_with fail;refine dS gm.out ?_;rintro e W8 ⟨rfl,g8⟩;have mm:=aa ia g8;have he:Hid (RIs W8 pr QQ):=hc.out.G bn.out.2 g8;have bi:Hid (w3.heap.size≤pr∧pr<W8.heap.size):=⟨bn.out.1,G.lt g8 bn.out.2⟩;have an:=aa g3 mm;clear gm hc bn ia g8;rcases am.out with ⟨-,hq,rfl,rfl,rfl⟩|⟨-,hq,rfl,rfl,rfl⟩
     ·have cs:S=s:=bl.out.1 hq;subst cs;clear hq am bl;obtain⟨c,d,k,m⟩:=eU R0 (an);go_wp2_with fail;have fs:Hid (pr≠w.heap.size):=by
       show pr≠w.heap.size;have h1:=bi.out.1;have h2:=g3.size;omega
      have hf:=lP (.int .i64 0) (.int .i64 0) he.out bi.out.2 (bs R0.out an) fs.out;have hh:=hi9 hf;have hT:Hid (Rec _ (w.heap.size) [.int .i64 0,.int .i64 0]):=Rec.set2 (bs R0.out (an));have g9:=Rec.h2 hT.out (aa g0 an) dT;have ll:Hid (pr<((W8.setCell ⟨w.heap.size,0,none⟩ (.int .i64 0)).setCell ⟨w.heap.size,1,none⟩ (.int .i64 0)).heap.size):=by
       show pr<_;have h1:=bi.out.2;simpa [World.setCell] using h1
      clear hf;generalize ((W8.setCell ⟨w.heap.size,0,none⟩ (.int .i64 0)).setCell ⟨w.heap.size,1,none⟩ (.int .i64 0))=w9 at *;clear c d k m;obtain⟨kk,kq,kr,ks⟩:=eU hT (af _);refine bodyPost_ret (v:= .tuple #[.pointer (some ⟨pr,0,none⟩),.agg #[.int .i64 0,.int .i64 0]]) (by simp [results,Tryz.results40,go_sem, *]) rfl ?_;exact Or.inr ⟨rfl,pr,rfl,g9,ll.out,hh.out⟩
     ·have cs:¬ S=s:=fun h=>hq (bl.out.2 h);have rc:=ik cs;clear hq am bl;go_wp2_with fail;refine dS (li.out _) ?_;rintro e W9 ⟨rfl,ih⟩;have cr:=aa an ih;clear an ih;obtain⟨c,d,k,m⟩:=eU R0 (cr);go_wp2_with fail;go_wp2_with fail;have hT:Hid (Rec _ (w.heap.size) [.int .i64 6,.int .i64 0]):=Rec.set2 (bs R0.out (cr));have g9:=Rec.h2 hT.out (aa g0 cr) dT;generalize (World.setCell (World.setCell W9 ⟨w.heap.size,0,none⟩ (.int .i64 6)) ⟨w.heap.size,1,none⟩ (.int .i64 0))=w9 at *;obtain⟨kw,la,lb,lc⟩:=eU hT (((af _)));refine bodyPost_ret (v:= .tuple #[.pointer none,.agg #[.int .i64 6,.int .i64 0]]) (by simp [results,Tryz.results40,go_sem, *]) rfl ?_;exact Or.inl ⟨by omega,rfl,g9⟩
 ·have dr:Tx s ((g++t)++47::u):=by
   have h:Tx s (g++(t++47::u)):=hs;rw[← cM] at h;exact h
  obtain⟨A9,B9,ms,nc,ec⟩:=q0d s (g++t) u dr dl hn;have bu:Hid (∀ O,_):=ec;have ii:=ms.size;rw[ag] at ii;have ol:=nc.size;have hl:Hid (∀ w0 O b,G w0 O→NI w0 O b 0→_):=fun w0 O b k3 k4=>kb.out w0 O b A9 ms dT k3 k4;have oi:Hid (∀ w0 O b,G w0 O→NI w0 O b 0→_):=fun w0 O b k3 k4=>lk.out w0 O b B9 nc dT k3 k4;have ep:Hid (∀ O,Calls Tryz.prog 44 #[.int .i64 1] O (RetI O 1)):=fun O=>mH O 1 dT;have oa:Hid (∀ O,Calls Tryz.prog 91 #[.int .i64 5,.int .i64 ((g.length:Int)+(t.length:Int)+1)] O _):=fun O=>kD O 5 _;have np:Hid (A9.size=g.length+t.length):=ii;have rs:g.length+t.length≤2000:=by omega
  clear dr ec ms nc ol hs hg ht hu h0 h1 hz ng dl hZ hQ I kb lk C ii;go_enter Tryz.func40,Tryz.ntmps40;go_wp2_with fail;obtain⟨w0,jp,g0,rf,R0⟩:=eD w [.int .i64 0,.int .i64 0] 65;rw[jp];clear jp;refine RV.region_inv 28 0 #[true,true,true,true,true,true,true,true,true,true,true,true,true,true,true,true,true,true,true,true,true,true,true,true,true,true,true,true] [some 19,some 20,some 21,some 22,none,some 23,none,some 24,none,some 25,none,some 26,none,some 27,none,some 28,none,some 29,some 30,none,none,some 31,some 32,some 18,some 33,some 34,some 5,some 6] (MI s AK AB w0) dV dV rfl dV dV ?_ ?_
  ·intro f;exact⟨(af _).drew,(fun j h=>(by cases h)),⟨(fun h=>by cases h),(fun h=>by cases h),(fun _ _ h=>by cases h)⟩,⟨(fun h=>by cases h),(fun h=>by cases h),(fun _ _ h=>by cases h)⟩,(fun h=>by cases h)⟩
  ·intro A R;simp only[List.range,List.range.loop,dB,List.map_nil,eY,Act.put,aA,aI,aJ] at R;refine⟨?_,?_⟩
   ·skip
    refine ar rfl ?_ ?_
    ·intro L f W E N I K C;rw[R f] at C ⊢;go_simp;exact C.out _ _ ⟨_,rfl,E.step 0 _ ey (af _) rfl⟩
    refine ar rfl ?_ ?_
    ·intro L f W E N I K C;rw[R f] at C ⊢;go_simp;exact C.out _ _ ⟨_,rfl,E.step 1 _ ey (af _) rfl⟩
    refine ar rfl ?_ ?_
    ·intro L f W E N I K C;rw[R f] at C ⊢;go_simp;exact C.out _ _ ⟨_,rfl,E.mkA N⟩
    refine ar rfl ?_ ?_
    ·intro L f W E N I K C;rw[R f] at C ⊢;go_simp;exact C.out _ _ ⟨_,rfl,E.step 3 _ ey (af _) rfl⟩
    refine ar rfl ?_ ?_
    ·intro L f W E N I K C;rw[R f] at C ⊢;obtain⟨p,o,U,F,J⟩:=E.putA (i:=4) (a:=0) (b:=1) (q:=1) ey N (I 2 dV) undef trivial;have X:f 3=kp 0 1:=E.held 3 (I 3 dV);have hr:(Instr.mapUpdate 111 (.map (some p)) (kp 0 1) (.int .i64 1)).run Tryz.prog W=_:=F;have M:=hi9 J;rw[U,X] at C ⊢;clear J E I U X F;go_simp;exact C.out _ _ ⟨_,rfl,M.out⟩
    refine ar rfl ?_ ?_
    ·intro L f W E N I K C;rw[R f] at C ⊢;go_simp;exact C.out _ _ ⟨_,rfl,E.step 5 _ ey (af _) rfl⟩
    refine ar rfl ?_ ?_
    ·intro L f W E N I K C;rw[R f] at C ⊢;obtain⟨p,o,U,F,J⟩:=E.putA (i:=6) (a:=0) (b:=2) (q:=2) ey N (I 2 dV) undef trivial;have X:f 5=kp 0 2:=E.held 5 (I 5 dV);have hr:(Instr.mapUpdate 111 (.map (some p)) (kp 0 2) (.int .i64 2)).run Tryz.prog W=_:=F;have M:=hi9 J;rw[U,X] at C ⊢;clear J E I U X F;go_simp;exact C.out _ _ ⟨_,rfl,M.out⟩
    refine ar rfl ?_ ?_
    ·intro L f W E N I K C;rw[R f] at C ⊢;go_simp;exact C.out _ _ ⟨_,rfl,E.step 7 _ ey (af _) rfl⟩
    refine ar rfl ?_ ?_
    ·intro L f W E N I K C;rw[R f] at C ⊢;obtain⟨p,o,U,F,J⟩:=E.putA (i:=8) (a:=1) (b:=2) (q:=2) ey N (I 2 dV) undef trivial;have X:f 7=kp 1 2:=E.held 7 (I 7 dV);have hr:(Instr.mapUpdate 111 (.map (some p)) (kp 1 2) (.int .i64 2)).run Tryz.prog W=_:=F;have M:=hi9 J;rw[U,X] at C ⊢;clear J E I U X F;go_simp;exact C.out _ _ ⟨_,rfl,M.out⟩
    refine ar rfl ?_ ?_
    ·intro L f W E N I K C;rw[R f] at C ⊢;go_simp;exact C.out _ _ ⟨_,rfl,E.step 9 _ ey (af _) rfl⟩
    refine ar rfl ?_ ?_
    ·intro L f W E N I K C;rw[R f] at C ⊢;obtain⟨p,o,U,F,J⟩:=E.putA (i:=10) (a:=2) (b:=2) (q:=2) ey N (I 2 dV) undef trivial;have X:f 9=kp 2 2:=E.held 9 (I 9 dV);have hr:(Instr.mapUpdate 111 (.map (some p)) (kp 2 2) (.int .i64 2)).run Tryz.prog W=_:=F;have M:=hi9 J;rw[U,X] at C ⊢;clear J E I U X F;go_simp;exact C.out _ _ ⟨_,rfl,M.out⟩
    refine ar rfl ?_ ?_
    ·intro L f W E N I K C;rw[R f] at C ⊢;go_simp;exact C.out _ _ ⟨_,rfl,E.step 11 _ ey (af _) rfl⟩
    refine ar rfl ?_ ?_
    ·intro L f W E N I K C;rw[R f] at C ⊢;obtain⟨p,o,U,F,J⟩:=E.putA (i:=12) (a:=2) (b:=3) (q:=3) ey N (I 2 dV) undef trivial;have X:f 11=kp 2 3:=E.held 11 (I 11 dV);have hr:(Instr.mapUpdate 111 (.map (some p)) (kp 2 3) (.int .i64 3)).run Tryz.prog W=_:=F;have M:=hi9 J;rw[U,X] at C ⊢;clear J E I U X F;go_simp;exact C.out _ _ ⟨_,rfl,M.out⟩
    refine ar rfl ?_ ?_
    ·intro L f W E N I K C;rw[R f] at C ⊢;go_simp;exact C.out _ _ ⟨_,rfl,E.step 13 _ ey (af _) rfl⟩
    refine ar rfl ?_ ?_
    ·intro L f W E N I K C;rw[R f] at C ⊢;obtain⟨p,o,U,F,J⟩:=E.putA (i:=14) (a:=3) (b:=2) (q:=4) ey N (I 2 dV) undef trivial;have X:f 13=kp 3 2:=E.held 13 (I 13 dV);have hr:(Instr.mapUpdate 111 (.map (some p)) (kp 3 2) (.int .i64 4)).run Tryz.prog W=_:=F;have M:=hi9 J;rw[U,X] at C ⊢;clear J E I U X F;go_simp;exact C.out _ _ ⟨_,rfl,M.out⟩
    refine ar rfl ?_ ?_
    ·intro L f W E N I K C;rw[R f] at C ⊢;go_simp;exact C.out _ _ ⟨_,rfl,E.step 15 _ ey (af _) rfl⟩
    refine ar rfl ?_ ?_
    ·intro L f W E N I K C;rw[R f] at C ⊢;obtain⟨p,o,U,F,J⟩:=E.putA (i:=16) (a:=4) (b:=2) (q:=4) ey N (I 2 dV) undef trivial;have X:f 15=kp 4 2:=E.held 15 (I 15 dV);have hr:(Instr.mapUpdate 111 (.map (some p)) (kp 4 2) (.int .i64 4)).run Tryz.prog W=_:=F;have M:=hi9 J;rw[U,X] at C ⊢;clear J E I U X F;go_simp;exact C.out _ _ ⟨_,rfl,M.out⟩
    refine ar rfl ?_ ?_
    ·intro L f W E N I K C;rw[R f] at C ⊢;have Y:∀ y∈insA,L y.1=true:=by
      intro y hy;have h:=fI y hy;simp only[bC,cS,or_false] at h;rcases h with h|h|h|h|h|h|h<;>rw[h]<;>exact I _ dV
     have M:=hi9 (E.mvA (I 2 dV) Y);clear Y E I;go_simp;exact C.out _ _ ⟨_,rfl,M.out⟩
    refine ar rfl ?_ ?_
    ·intro L f W E N I K C;rw[R f] at C ⊢;go_simp;exact C.out _ _ ⟨_,rfl,E.mkB N⟩
    refine ar rfl ?_ ?_
    ·intro L f W E N I K C;rw[R f] at C ⊢;obtain⟨p,o,U,F,J⟩:=E.putB (i:=19) (a:=2) ey N (I 18 dV) undef trivial;have hr:(Instr.mapUpdate 112 (.map (some p)) (.int .i64 2) (.int .i64 1)).run Tryz.prog W=_:=F;have M:=hi9 J;rw[U] at C ⊢;clear J E I U F;go_simp;exact C.out _ _ ⟨_,rfl,M.out⟩
    refine ar rfl ?_ ?_
    ·intro L f W E N I K C;rw[R f] at C ⊢;obtain⟨p,o,U,F,J⟩:=E.putB (i:=20) (a:=4) ey N (I 18 dV) undef trivial;have hr:(Instr.mapUpdate 112 (.map (some p)) (.int .i64 4) (.int .i64 1)).run Tryz.prog W=_:=F;have M:=hi9 J;rw[U] at C ⊢;clear J E I U F;go_simp;exact C.out _ _ ⟨_,rfl,M.out⟩
    refine ar rfl ?_ ?_
    ·intro L f W E N I K C;rw[R f] at C ⊢;have Y:∀ y∈insB,L y.1=true:=by
      intro y hy;have h:=fJ y hy;simp only[bC,cS,or_false] at h;rcases h with h|h<;>rw[h]<;>exact I _ dV
     have M:=hi9 (E.mvB (I 18 dV) Y);clear Y E I;go_simp;exact C.out _ _ ⟨_,rfl,M.out⟩
    refine ar rfl ?_ ?_
    ·intro L f W E N I K C;rw[R f] at C ⊢;have e0:f 0= .string s:=E.held 0 (I 0 dV);have e1:f 1= .func (.func 92) #[] #[]:=E.held 1 (I 1 dV);obtain⟨ba,bb,ea,eb,ha,hb⟩:=E.maps (I 17 dV) (I 21 dV);have HC:=hi9 (HU.out W ba bb ha hb);have M:Hid (MI s AK AB w0 L f W):=E;rw[e0,e1,ea,eb] at C ⊢;clear e0 e1 ea eb ha hb E I;go_simp;go_wp2_with (go_at_call 93;refine dS HC.out ?_;intro e w9 hs;obtain⟨rfl,g9⟩:=hs);exact C.out _ _ ⟨_,rfl,M.out.step 22 _ ey g9 rfl⟩
    refine ar rfl ?_ ?_
    ·intro L f W E N I K C;rw[R f] at C ⊢;have lm:f 22= .tuple #[.int .i64 (AK:Int),.bool AB]:=E.held 22 (I 22 dV);rw[lm] at C ⊢;go_simp;exact C.out _ _ ⟨_,rfl,E.step 23 _ ey (af _) rfl⟩
    refine ar rfl ?_ ?_
    ·intro L f W E N I K C;rw[R f] at C ⊢;have cn:f 23= .tuple #[.int .i64 (AK:Int),.bool AB]:=E.held 23 (I 23 dV);rw[cn] at C ⊢;go_simp;exact C.out _ _ ⟨_,rfl,E.step 24 _ ey (af _) rfl⟩
    refine ar rfl ?_ ?_
    ·intro L f W E N I K C;rw[R f] at C ⊢;have cn:f 23= .tuple #[.int .i64 (AK:Int),.bool AB]:=E.held 23 (I 23 dV);rw[cn] at C ⊢;go_simp;exact C.out _ _ ⟨_,rfl,E.step 25 _ ey (af _) rfl⟩
    refine ar rfl ?_ ?_
    ·intro L f W E N I K C;rw[R f] at C ⊢;have ls:f 24= .int .i64 (AK:Int):=E.held 24 (I 24 dV);rw[ls] at C ⊢;go_simp;exact C.out _ _ ⟨_,rfl,E.step 26 _ ey (af _) rfl⟩
    refine ar rfl ?_ ?_
    ·intro L f W E N I K C;rw[R f] at C ⊢;have lw:f 25= .bool AB:=E.held 25 (I 25 dV);rw[lw] at C ⊢;go_simp;exact C.out _ _ ⟨_,rfl,E.step 27 _ ey (af _) rfl⟩
    exact RV.Ones.nil
   ·skip
    intro f L w3 E N;have hp:f 26= .int .i64 (AK:Int):=E.held 26 (N 26 ey);have hw:f 27= .bool AB:=E.held 27 (N 27 ey);have g3:=E.g;rw[R f,hp,hw];generalize f 0=rh,f 1=ri,f 2=rj,f 3=rk,f 4=rl,f 5=rm,f 6=rn,f 7=rp,f 8=rq,f 9=rr,f 10=pi,f 11=pm,f 12=po,f 13=pp,f 14=ps,f 15=pu,f 16=pv,f 17=px,f 18=pz,f 19=qa,f 20=qb,f 21=qq,f 22=qs,f 23=qt,f 24=ra,f 25=rb at *;clear E N R hp hw;refine wpAny_done dV ?_ _;obtain rfl:AB=true:=jx.out;clear HU jx;go_wp2_with fail;refine dS (bu.out _) ?_;rintro e W1 ⟨rfl,k1⟩;have ci:NI w3 (W1.alloc (.cells #[.bool false,.slice none 0 0] 43)) W1.heap.size 0:=NI.new k1 _;have ce:=k1.alloc (.cells #[.bool false,.slice none 0 0] 43);have bq:=hi9 (hl.out w3 _ W1.heap.size ce ci);clear bu hl ci ce k1;go_wp2_with fail;refine dS bq.out ?_;rintro e W2 ⟨rfl,dq,it,-,-⟩;have bv:Hid (NI w3 W2 W1.heap.size Z):=it;generalize W1.heap.size=pn at *;clear bq it;go_wp2_with fail;refine dS (ep.out _) ?_;rintro e W3 ⟨p1,rfl,k3,-,-,-⟩;have ly:=aa dq k3;have gg:Hid (NI w3 W3 pn Z):=bv.out.G k3;have ci:NI w3 (W3.alloc (.cells #[.bool false,.slice none 0 0] 43)) W3.heap.size 0:=NI.new ly _;have ce:=ly.alloc (.cells #[.bool false,.slice none 0 0] 43);have pb:pn≠W3.heap.size:=Nat.ne_of_lt gg.out.2.1;have kv:Hid (NI w3 (W3.alloc (.cells #[.bool false,.slice none 0 0] 43)) pn Z):=gg.out.G ((af _).alloc _);have bq:=hi9 (oi.out w3 _ W3.heap.size ce ci);have ob:Hid (pn≠W3.heap.size):=pb;clear ep oi ci ce k3 pb dq bv gg;go_wp2_with fail;refine dS bq.out ?_;rintro e W5 ⟨rfl,hx,pc,-,io⟩
    have fv:Hid (NI w3 W5 pn Z):=io pn Z ob.out kv.out;have cl:Hid (NI w3 W5 W3.heap.size (D:Int)):=pc;generalize W3.heap.size=pd at *;clear bq pc io ob kv ly;have ho:=hi9 (nN W5 pd 0 (D:Int) cl.out.2.2);go_wp2_with fail;refine dS ho.out ?_;rintro e W6 ⟨rfl,g6⟩;have cd:=aa hx g6;have ap:Hid (NI w3 W6 pn Z):=fv.out.G g6;have ao:Hid (NI w3 W6 pd (D:Int)):=cl.out.G g6;clear ho fv cl hx g6;rcases ca.out with ⟨I,rfl,rfl,rfl⟩|al
    ·subst I;have R:=np.out;clear ca hm hj bl li ap ao;go_wp2_with fail;refine dS (oa.out _) ?_;rintro e W7 ⟨rfl,g7⟩;have lx:=aa g3 (aa cd g7);obtain⟨c,d,k,m⟩:=eU R0 (lx);go_wp2_with fail;go_wp2_with fail;have hT:Hid (Rec _ (w.heap.size) [.int .i64 5,.int .i64 ((g.length:Int)+(t.length:Int)+1)]):=Rec.set2 (bs R0.out (lx));have g9:=Rec.h2 hT.out (aa g0 lx) dT;generalize (World.setCell (World.setCell W7 ⟨w.heap.size,0,none⟩ (.int .i64 5)) ⟨w.heap.size,1,none⟩ (.int .i64 ((g.length:Int)+(t.length:Int)+1)))=w9 at *;obtain⟨kw,la,lb,lc⟩:=eU hT (((af _)));refine bodyPost_ret (v:= .tuple #[.pointer none,.agg #[.int .i64 5,.int .i64 ((g.length:Int)+(t.length:Int)+1)]]) (by simp [results,Tryz.results40,go_sem, *]) rfl ?_;exact Or.inl ⟨by omega,rfl,g9⟩
    ·clear np oa;have am:=hi9 al;have I:D≠0:=by
      rcases al with ⟨h1,-⟩|⟨h1,-⟩
      ·exact h1
      ·exact h1
     have re:((D:Int).sign==0)=false:=by rw[beq_eq_false_iff_ne];intro e;rw[Int.sign_eq_zero_iff_zero] at e;omega
     have cc:Hid _:=hm.out I;have cb:Hid _:=hj.out I;generalize (D:Int).sign=sd at *;clear ca hm hj al I;have dk:Rec (W6.alloc (.cells #[.bool false,.slice none 0 0,.bool false,.slice none 0 0] 45)) W6.heap.size [.bool false,.slice none 0 0,.bool false,.slice none 0 0]:=⟨_,by simp only[World.alloc];exact cQ⟩;have ga:=(af W6).alloc (.cells #[.bool false,.slice none 0 0,.bool false,.slice none 0 0] 45);have hk:=hi9 (cc.out _ W6.heap.size pn pd dk (ad ap.out.2.1 ga.size) (ad ao.out.2.1 ga.size) ((ap.out.G ga).2.2) ((ao.out.G ga).2.2));have ds:Hid (W6.heap.size<(W6.alloc (.cells #[.bool false,.slice none 0 0,.bool false,.slice none 0 0] 45)).heap.size):=dk.lt;have ib:=aa cd ga;have em:Hid (w3.heap.size≤W6.heap.size):=cd.size;clear dk ga cc ap ao cd;go_wp2_with fail;refine dS hk.out ?_;intro e W7 jj;obtain⟨pr,rfl,ia,hle,cx,cz⟩:=SetRat.ret ib em.out ds.out jj;have hc:Hid (RIs W7 pr QQ):=cz;have bn:Hid (w3.heap.size≤pr∧pr<W7.heap.size):=⟨hle,cx⟩;have gm:=hi9 (cb.out W7 pr cx cz);clear hk jj hle cx cz ib em ds cb;go_wp2_with fail;refine dS gm.out ?_;rintro e W8 ⟨rfl,g8⟩;have mm:=aa ia g8;have he:Hid (RIs W8 pr QQ):=hc.out.G bn.out.2 g8;have bi:Hid (w3.heap.size≤pr∧pr<W8.heap.size):=⟨bn.out.1,G.lt g8 bn.out.2⟩;have an:=aa g3 mm;clear gm hc bn ia g8;rcases am.out with ⟨-,hq,rfl,rfl,rfl⟩|⟨-,hq,rfl,rfl,rfl⟩
     ·have cs:S=s:=bl.out.1 hq;subst cs;clear hq am bl;obtain⟨c,d,k,m⟩:=eU R0 (an);go_wp2_with fail;have fs:Hid (pr≠w.heap.size):=by
       show pr≠w.heap.size;have h1:=bi.out.1;have h2:=g3.size;omega
      have hf:=lP (.int .i64 0) (.int .i64 0) he.out bi.out.2 (bs R0.out an) fs.out;have hh:=hi9 hf;have hT:Hid (Rec _ (w.heap.size) [.int .i64 0,.int .i64 0]):=Rec.set2 (bs R0.out (an));have g9:=Rec.h2 hT.out (aa g0 an) dT;have ll:Hid (pr<((W8.setCell ⟨w.heap.size,0,none⟩ (.int .i64 0)).setCell ⟨w.heap.size,1,none⟩ (.int .i64 0)).heap.size):=by
       show pr<_;have h1:=bi.out.2;simpa [World.setCell] using h1
      clear hf;generalize ((W8.setCell ⟨w.heap.size,0,none⟩ (.int .i64 0)).setCell ⟨w.heap.size,1,none⟩ (.int .i64 0))=w9 at *;clear c d k m;obtain⟨kk,kq,kr,ks⟩:=eU hT (af _);refine bodyPost_ret (v:= .tuple #[.pointer (some ⟨pr,0,none⟩),.agg #[.int .i64 0,.int .i64 0]]) (by simp [results,Tryz.results40,go_sem, *]) rfl ?_;exact Or.inr ⟨rfl,pr,rfl,g9,ll.out,hh.out⟩
     ·have cs:¬ S=s:=fun h=>hq (bl.out.2 h);have rc:=ik cs;clear hq am bl;go_wp2_with fail;refine dS (li.out _) ?_;rintro e W9 ⟨rfl,ih⟩;have cr:=aa an ih;clear an ih;obtain⟨c,d,k,m⟩:=eU R0 (cr);go_wp2_with fail;go_wp2_with fail;have hT:Hid (Rec _ (w.heap.size) [.int .i64 6,.int .i64 0]):=Rec.set2 (bs R0.out (cr));have g9:=Rec.h2 hT.out (aa g0 cr) dT;generalize (World.setCell (World.setCell W9 ⟨w.heap.size,0,none⟩ (.int .i64 6)) ⟨w.heap.size,1,none⟩ (.int .i64 0))=w9 at *;obtain⟨kw,la,lb,lc⟩:=eU hT (((af _)));refine bodyPost_ret (v:= .tuple #[.pointer none,.agg #[.int .i64 6,.int .i64 0]]) (by simp [results,Tryz.results40,go_sem, *]) rfl ?_;exact Or.inl ⟨by omega,rfl,g9⟩
end Go.Proofs.YtfnkkkcojnffdaaGreatDoor.EN
