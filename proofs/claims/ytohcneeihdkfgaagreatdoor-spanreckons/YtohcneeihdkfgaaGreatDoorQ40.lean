/- What is proved here: the reference's rounding of a fraction, over this seat's translation. -/
import Derived.Test.YtohcneeihdkfgaaGreatDoorQ1
import Derived.Test.YtohcneeihdkfgaaGreatDoorQ3
import Derived.Test.YtohcneeihdkfgaaGreatDoorQ8
import Derived.Test.YtohcneeihdkfgaaGreatDoorQ38
namespace Go.Proofs.YtohcneeihdkfgaaGreatDoor.EN
open Go.ChangeShapes Go.WideShapes Go.ChangeAt Go.RowKit
attribute [local go_sem] fE fN
theorem jB (w:World) (u v:Value) (x y:Rat) (K:Nat) (D:K≤40000) (I:QB x K) (J:QB y K) (hu:PR w u x) (hv:PR w v y):
  Calls Tryz.prog 25 #[u,v] w fun e L=>e= .returned (.int .i64 (x.num*y.den-y.num*x.den).sign)∧G w L:=by
 obtain⟨bx,rfl,A,E⟩:=hu;obtain⟨C,rfl,B,F⟩:=hv;exact q5M w bx C x y K D I J A B (Or.inl E) (Or.inl F)
theorem q2X (w:World):Calls Tryz.prog 211 #[.int .i64 (-1)] w fun e A=>e= .returned (.float .f64 FT.ninf)∧G w A:=by
 go_enter Tryz.func211,Tryz.ntmps211;go_wp2;go_ret;exact⟨rfl,ad _⟩
theorem q5D {q:Rat} (A:q≠0):q.num.sign=if decide (q.num<0)=true then -1 else 1:=q6w A
set_option maxHeartbeats 4000000 in
set_option maxRecDepth 10000 in
/-- Rounding of a fraction above 0. -/
theorem rD (w:World) (u:Value) (q:Rat) (m:Int) (h0:0<q.num) (hq:QB q 400) (hm:m=1∨m=2∨m=3∨m=4) (hu:PR w u q):
  Calls Tryz.prog 202 #[u,.int .i64 m] w fun e K=>e= .returned (.float .f64 (rdW m q))∧G w K:=by
 have hs:decide (q.num<0)=false:=decide_eq_false eX;have bq:q≠0:=by rintro rfl;exact absurd h0 fk
 have hA:q.num.natAbs≠0:=by omega
 obtain⟨T,hT⟩:∃ T,T=tV q.num.natAbs q.den:=⟨_,rfl⟩;obtain⟨l,hl⟩:∃ l,l=lV q.num.natAbs q.den:=⟨_,rfl⟩;obtain⟨V,hV⟩:∃ V,V=rdV 1 false q.num.natAbs q.den:=⟨_,rfl⟩;obtain⟨bs,ag,am,cz⟩:=oH bq hs.symm hT hl hV;have bn:=hi9 cz;have dl:Hid (l=0→T≠0):=fun h e=>by
  have k:=(iO hA q.den_nz).2.2.1 (by rw[← hl];exact h);rw[← hT,e,show FT.v 0=0 from by decide,bL] at k;have:=aM (cy hA) (ae 1074);omega
 have Z:Hid (rdW 2 q=FT.wrd false T):=by show _=_;unfold rdW;rw[hs,mM,← hT,← hl];congr 1;simp
 have j:Hid (rdW 3 q=FT.wrd false (if l≠0 then T+1 else T)):=by show _=_;unfold rdW;rw[hs,q3p,← hT,← hl];congr 1;simp
 have c:Hid (rdW 4 q=FT.wrd false T):=by show _=_;unfold rdW;rw[hs,q5B,← hT]
 have bi:Hid (rdW 1 q=FT.wrd false V):=by show _=_;unfold rdW;rw[hs,hV]
 have ai:V≤2047*2^52:=by rw[hV];exact ry 1 false hA q.den_nz
 have HF:Hid (∀ W,G w W→Calls Tryz.prog 256 #[u] W (qq W (FT.wrd false V))):=fun W g=>by
  obtain⟨p,rfl,hp,hr⟩:=hu;have k:=oz W p q bq hq (de g hp) (hr.G hp g);have e:nR q=FT.wrd false V:=by
   show FT.wrd (decide (q.num<0)) (rdV 1 (decide (q.num<0)) q.num.natAbs q.den)=_;rw[hs,hV]
  rw[e] at k;exact k
 have i:Hid (∀ W,G w W→Calls Tryz.prog 23 #[u] W fun e K=>e= .returned (.int .i64 1)∧G W K):=fun W g=>by
  have k:=mK W u q (hu.G g);rw[q5D bq,hs] at k;exact k
 have y:Hid (∀ W:World,Calls Tryz.prog 144 #[.float .f64 0,.float .f64 4607182418800017408] W fun e K=>e= .returned (.float .f64 (FT.wrd false 0))∧G W K):=fun W=>rN false W;have eb:=q2r;have di:Hid (∀ W:World,Calls Tryz.prog 101 #[.float .f64 (FT.wrd false V),.int .i64 1] W fun e K=>e= .returned (.bool (decide (V=2047*2^52)))∧G W K):=fun W=>qQ false V W ai;have ci:Hid (∀ W:World,Calls Tryz.prog 101 #[.float .f64 (FT.wrd false V),.int .i64 (-1)] W fun e K=>e= .returned (.bool false)∧G W K):=fun W=>qP false V W ai;have C:Hid (V<2047*2^52→∀ W,Calls Tryz.prog 38 #[.float .f64 (FT.wrd false V)] W (RetP W (FQ (FT.wrd false V)))):=fun h W=>by
  have hx:=(fq_v false h).2;have cr:=FT.wrd_lt false V eX;rw[ko cr hx];exact lj W _ cr hx
 have B:Hid (V<2047*2^52→∀ W v,G w W→PR W v (FQ (FT.wrd false V))→_):=fun h W v g hv=>jB W v u _ q 400 eX ((q5A (fq_v false h).2).mono eX) hq hv (hu.G g);have cl:Hid (∀ W:World,Calls Tryz.prog 211 #[.int .i64 (-1)] W fun e K=>e= .returned (.float .f64 FT.ninf)∧G W K):=fun W=>q2X W;have bw:Hid (∀ W:World,Calls Tryz.prog 211 #[.int .i64 1] W fun e K=>e= .returned (.float .f64 FT.infR)∧G W K):=fun W=>q0H 1 W eX;have d:Hid True:=trivial;have bu:True:=trivial;have cd:=gH false (V:=V) eX;clear hT hl hV hs hA bq cz hq h0;go_enter Tryz.func202,Tryz.ntmps202;go_wp2_with fail;refine eW (HF.out w (ad _)) ?_;rintro e wa ⟨xx,rfl,ga⟩;go_wp2_with fail;refine eW (i.out wa ga) ?_;rintro e wb ⟨rfl,gb⟩;by_cases al:V=0
 focus
  rw[decide_eq_true al] at cd;have bm:Hid (V=0):=al;clear al;go_wp2_with fail;refine eW (i.out wb gv) ?_;rintro e wc ⟨rfl,gc⟩;go_wp2_with fail;have ce:Hid (∀ W:World,Calls Tryz.prog 144 #[.float .f64 0,.float .f64 4607182418800017408] W fun e K=>e= .returned (.float .f64 (FT.wrd false V))∧G W K):=fun W=>by rw[bm.out];exact y.out W
  refine eW (ce.out wc) ?_;rintro e w2 ⟨rfl,gd⟩;have g2:G w w2:=gv;clear ga gb gc gd ce;clear HF;rcases hm with rfl|hm
  ·go_wp2_with fail;go_ret;exact⟨by rw[bi.out];first|done|rfl,g2⟩
  have af:(m==1)=false:=by simp;omega
  clear cd bm bi ai
 rotate_left
 focus
  rw[decide_eq_false al] at cd;have bm:Hid (V≠0):=al;clear al
  skip
  obtain⟨w2,ap⟩:∃ w2,w2=wb:=⟨_,rfl⟩;rw[← ap];have g2:G w w2:=by rw[ap];exact ab ga gb
  clear ga gb ap;clear HF;rcases hm with rfl|hm
  ·go_wp2_with fail;go_ret;exact⟨by rw[bi.out];first|done|rfl,g2⟩
  have af:(m==1)=false:=by simp;omega
  clear bm bi ai
 all_goals
  go_wp2_with fail;refine eW (di.out w2) ?_;rintro e w3 ⟨rfl,g3⟩;by_cases R:V=2047*2^52
  ·obtain⟨lo,J⟩:∃ lo,lo=FT.wrd false V:=⟨_,rfl⟩;have cc:T+1=V:=by rcases ag with h|h<;>omega
   have E:l≠0:=am cc.symm;have dq:(FloatKind.f64.format.order 9218868437227405311 0==some .eq)=false:=by decide+kernel
   have ea:(FloatKind.f64.format.order lo 0==some .eq)=false:=by rw[J,gH false eX];exact decide_eq_false eX
   have cb:Hid (FT.wrd false T=9218868437227405311):=by show _=_;rw[show T=2047*2^52-1 from by omega];rfl
   have S:Hid (rdW 3 q=lo):=by show _=_;rw[j.out,if_pos E,cc,J]
   have M:Hid (rdW 2 q=9218868437227405311):=by show _=_;rw[Z.out,cb.out]
   have L:Hid (rdW 4 q=9218868437227405311):=by show _=_;rw[c.out,cb.out]
   rw[decide_eq_true R];rw[← J] at ci ⊢;clear J cc E R cb bs ag am C B d Z j c;clear af;rcases hm with rfl|rfl|rfl
   all_goals
    go_wp2_with (first|(go_at_call 23;refine(i.out _ gv).mono ?_;rintro e wn ⟨rfl,N⟩)|(go_at_call 144;refine(y.out _).mono ?_;rintro e wn ⟨rfl,N⟩));go_ret
    first|exact⟨by rw[M.out];first|done|rfl,gv⟩|exact⟨by rw[S.out];first|done|rfl,gv⟩|exact⟨by rw[L.out];first|done|rfl,gv⟩
  ·have I:V<2047*2^52:=by omega
   rw[decide_eq_false R];go_wp2_with fail;refine eW (ci.out w3) ?_;rintro e w4 ⟨rfl,g4⟩;go_wp2_with fail;refine eW (C.out I w4) ?_;rintro e w5 ⟨v5,rfl,g5,k5⟩;have bl:Hid (PR w5 v5 (FQ (FT.wrd false V))):=k5;clear k5;go_wp2_with fail;refine eW (B.out I w5 v5 gv bl.out) ?_;rintro e w6 ⟨rfl,g6⟩;have A:=(bn.out I);by_cases E:l=0
   ·have F:V=T:=by rcases ag with h|h;exact h;exact absurd E (am h)
    rw[if_pos E] at A;rw[A];obtain⟨lo,J⟩:∃ lo,lo=FT.wrd false V:=⟨_,rfl⟩;have cs:V≠0:=by rw[F];exact dl.out E
    have dq:(FloatKind.f64.format.order lo 0==some .eq)=false:=by rw[J,gH false eX];exact decide_eq_false cs
    have S:Hid (rdW 3 q=lo):=by show _=_;rw[j.out,if_neg (by simpa using E),← F,J]
    have M:Hid (rdW 2 q=lo):=by show _=_;rw[Z.out,← F,J]
    have L:Hid (rdW 4 q=lo):=by show _=_;rw[c.out,← F,J]
    rw[← J] at C B bl ⊢;have C:Hid (∀ W,_):=fun W=>C.out I W;have B:Hid (∀ W v,G w W→PR W v (FQ lo)→Calls Tryz.prog 25 #[v,u] W fun e K=>e= .returned (.int .i64 0)∧G W K):=fun W v g h=>by have k:=B.out I W v g h;rw[J] at k;rw[A] at k;exact k
    clear J F E cs R I A bs ag am d Z j c bn;go_wp2_with fail;refine eW (C.out w6) ?_;rintro e w7 ⟨v7,rfl,g7,k7⟩;have ca:Hid (PR w7 v7 (FQ lo)):=k7;clear k7;go_wp2_with fail;refine eW (B.out w7 v7 gv ca.out) ?_;rintro e w8 ⟨rfl,g8⟩;clear af;rcases hm with rfl|rfl|rfl
    all_goals
     go_wp2_with (first|(go_at_call 23;refine(i.out _ gv).mono ?_;rintro e wn ⟨rfl,N⟩)|(go_at_call 144;refine(y.out _).mono ?_;rintro e wn ⟨rfl,N⟩));go_ret
     first|exact⟨by rw[M.out];first|done|rfl,gv⟩|exact⟨by rw[S.out];first|done|rfl,gv⟩|exact⟨by rw[L.out];first|done|rfl,gv⟩
   ·rw[if_neg E] at A;by_cases F:V=T
    ·skip
     rw[if_pos F] at A;simp only[ax,if_false] at A;rw[A];obtain⟨O,s⟩:∃ O,O=FT.wrd false V:=⟨_,rfl⟩;obtain⟨Y,o⟩:∃ Y,Y=FT.wrd false (T+1):=⟨_,rfl⟩;have D:Hid (FT.wrd false T=O):=by show _=_;rw[s,F]
     have U:Hid (FT.wrd false (T+1)=Y):=by show _=_;rw[o]
     have dr:(FloatKind.f64.format.order Y 0==some .eq)=false:=by rw[← U.out,gH false eX];exact decide_eq_false eX
     have an:(FloatKind.f64.format.order O 0==some .eq)=decide (T=0):=by rw[← D.out,gH false eX]
     have S:Hid (rdW 3 q=Y):=by show _=_;rw[j.out,if_pos E,U.out]
     have M:Hid (rdW 2 q=O):=by show _=_;rw[Z.out,D.out]
     have L:Hid (rdW 4 q=O):=by show _=_;rw[c.out,D.out]
     have d:Hid (∀ W,Calls Tryz.prog 60 #[.float .f64 O,.float .f64 FT.infR] W fun e K=>e= .returned (.float .f64 Y)∧G W K):=fun W=>by
      have k:=js O W (by rw[s];exact FT.wrd_lt false _ eX);have e:upV O=Y:=by rw[← D.out,q3V (V:=T) eX];exact U.out
      rw[e] at k;exact k
     rw[← s] at C B bl ⊢;have C:Hid (∀ W,_):=fun W=>C.out I W;have B:Hid (∀ W v,G w W→PR W v (FQ O)→Calls Tryz.prog 25 #[v,u] W fun e K=>e= .returned (.int .i64 (-1))∧G W K):=fun W v g h=>by have k:=B.out I W v g h;rw[s] at k;rw[A] at k;exact k
     obtain⟨t0,X⟩:∃ t0,t0=decide (T=0):=⟨_,rfl⟩;rw[← X] at an;have bz:Hid (t0=true→O=FT.wrd false 0):=fun h=>by rw[h] at X;rw[← D.out,of_decide_eq_true X.symm]
     clear bu X s o F E R I A bs ag am Z j c bn D U;go_wp2_with fail;refine eW (bw.out w6) ?_;rintro e w9 ⟨rfl,g9⟩;go_wp2_with fail;refine eW (d.out w9) ?_;rintro e ds ⟨rfl,g10⟩;cases t0
     ·skip
      clear af;rcases hm with rfl|rfl|rfl
      all_goals
       go_wp2_with (first|(go_at_call 23;refine(i.out _ gv).mono ?_;rintro e wn ⟨rfl,N⟩)|(go_at_call 144;refine(y.out _).mono ?_;rintro e wn ⟨rfl,N⟩));go_ret
       first|exact⟨by rw[M.out];first|done|rfl,gv⟩|exact⟨by rw[S.out];first|done|rfl,gv⟩|exact⟨by rw[L.out];first|done|rfl,gv⟩
     ·rw[bz.out rfl] at an d M L ⊢;clear af;rcases hm with rfl|rfl|rfl
      all_goals
       go_wp2_with (first|(go_at_call 23;refine(i.out _ gv).mono ?_;rintro e wn ⟨rfl,N⟩)|(go_at_call 144;refine(y.out _).mono ?_;rintro e wn ⟨rfl,N⟩));go_ret
       first|exact⟨by rw[M.out];first|done|rfl,gv⟩|exact⟨by rw[S.out];first|done|rfl,gv⟩|exact⟨by rw[L.out];first|done|rfl,gv⟩
    ·skip
     rw[if_neg F] at A;simp only[ax,if_false] at A;rw[A];have bv:V=T+1:=by rcases ag with h|h;exact absurd h F;exact h
     obtain⟨Y,o⟩:∃ Y,Y=FT.wrd false V:=⟨_,rfl⟩;obtain⟨O,s⟩:∃ O,O=FT.wrd false T:=⟨_,rfl⟩;have D:Hid (FT.wrd false T=O):=s.symm;have U:Hid (FT.wrd false (T+1)=Y):=by show _=_;rw[o,bv]
     have dr:(FloatKind.f64.format.order Y 0==some .eq)=false:=by rw[← U.out,gH false eX];exact decide_eq_false eX
     have an:(FloatKind.f64.format.order O 0==some .eq)=decide (T=0):=by rw[← D.out,gH false eX]
     have S:Hid (rdW 3 q=Y):=by show _=_;rw[j.out,if_pos E,U.out]
     have M:Hid (rdW 2 q=O):=by show _=_;rw[Z.out,D.out]
     have L:Hid (rdW 4 q=O):=by show _=_;rw[c.out,D.out]
     have d:Hid (∀ W,Calls Tryz.prog 60 #[.float .f64 Y,.float .f64 FT.ninf] W fun e K=>e= .returned (.float .f64 O)∧G W K):=fun W=>by
      have k:=jP Y W (by rw[o];exact FT.wrd_lt false _ eX);have e:mo Y=O:=by rw[← U.out,q2y (V:=T) eX];exact D.out
      rw[e] at k;exact k
     rw[← o] at C B bl ⊢;have C:Hid (∀ W,_):=fun W=>C.out I W;have B:Hid (∀ W v,G w W→PR W v (FQ Y)→Calls Tryz.prog 25 #[v,u] W fun e K=>e= .returned (.int .i64 1)∧G W K):=fun W v g h=>by have k:=B.out I W v g h;rw[o] at k;rw[A] at k;exact k
     obtain⟨t0,X⟩:∃ t0,t0=decide (T=0):=⟨_,rfl⟩;rw[← X] at an;have bz:Hid (t0=true→O=FT.wrd false 0):=fun h=>by rw[h] at X;rw[← D.out,of_decide_eq_true X.symm]
     clear bv bu X s o F E R I A bs ag am Z j c bn D U;go_wp2_with fail;refine eW (C.out w6) ?_;rintro e w7 ⟨v7,rfl,g7,k7⟩;have ca:Hid (PR w7 v7 (FQ Y)):=k7;clear k7;go_wp2_with fail;refine eW (B.out w7 v7 gv ca.out) ?_;rintro e w8 ⟨rfl,g8⟩;go_wp2_with fail;refine eW (cl.out w8) ?_;rintro e w9 ⟨rfl,g9⟩;go_wp2_with fail;refine eW (d.out w9) ?_;rintro e ds ⟨rfl,g10⟩;cases t0
     ·skip
      clear af;rcases hm with rfl|rfl|rfl
      all_goals
       go_wp2_with (first|(go_at_call 23;refine(i.out _ gv).mono ?_;rintro e wn ⟨rfl,N⟩)|(go_at_call 144;refine(y.out _).mono ?_;rintro e wn ⟨rfl,N⟩));go_ret
       first|exact⟨by rw[M.out];first|done|rfl,gv⟩|exact⟨by rw[S.out];first|done|rfl,gv⟩|exact⟨by rw[L.out];first|done|rfl,gv⟩
     ·rw[bz.out rfl] at an d M L ⊢;clear af;rcases hm with rfl|rfl|rfl
      all_goals
       go_wp2_with (first|(go_at_call 23;refine(i.out _ gv).mono ?_;rintro e wn ⟨rfl,N⟩)|(go_at_call 144;refine(y.out _).mono ?_;rintro e wn ⟨rfl,N⟩));go_ret
       first|exact⟨by rw[M.out];first|done|rfl,gv⟩|exact⟨by rw[S.out];first|done|rfl,gv⟩|exact⟨by rw[L.out];first|done|rfl,gv⟩
set_option maxHeartbeats 4000000 in
set_option maxRecDepth 10000 in
/-- Rounding of a fraction below 0. -/
theorem q3x (w:World) (u:Value) (q:Rat) (m:Int) (h0:q.num<0) (hq:QB q 400) (hm:m=1∨m=2∨m=3∨m=4) (hu:PR w u q):
  Calls Tryz.prog 202 #[u,.int .i64 m] w fun e K=>e= .returned (.float .f64 (rdW m q))∧G w K:=by
 have hs:decide (q.num<0)=true:=decide_eq_true h0;have bs:q≠0:=by rintro rfl;exact absurd h0 fk
 have hA:q.num.natAbs≠0:=by omega
 obtain⟨T,hT⟩:∃ T,T=tV q.num.natAbs q.den:=⟨_,rfl⟩;obtain⟨l,hl⟩:∃ l,l=lV q.num.natAbs q.den:=⟨_,rfl⟩;obtain⟨V,hV⟩:∃ V,V=rdV 1 true q.num.natAbs q.den:=⟨_,rfl⟩;obtain⟨bu,ag,am,cz⟩:=oH bs hs.symm hT hl hV;have bq:=hi9 cz;have dl:Hid (l=0→T≠0):=fun h e=>by
  have k:=(iO hA q.den_nz).2.2.1 (by rw[← hl];exact h);rw[← hT,e,show FT.v 0=0 from by decide,bL] at k;have:=aM (cy hA) (ae 1074);omega
 have Y:Hid (rdW 2 q=FT.wrd true (if l≠0 then T+1 else T)):=by show _=_;unfold rdW;rw[hs,mM,← hT,← hl];congr 1;simp
 have i:Hid (rdW 3 q=FT.wrd true T):=by show _=_;unfold rdW;rw[hs,q3p,← hT,← hl];congr 1;simp
 have Z:Hid (rdW 4 q=FT.wrd true T):=by show _=_;unfold rdW;rw[hs,q5B,← hT]
 have bl:Hid (rdW 1 q=FT.wrd true V):=by show _=_;unfold rdW;rw[hs,hV]
 have ai:V≤2047*2^52:=by rw[hV];exact ry 1 true hA q.den_nz
 have HF:Hid (∀ W,G w W→Calls Tryz.prog 256 #[u] W (qq W (FT.wrd true V))):=fun W g=>by
  obtain⟨p,rfl,hp,hr⟩:=hu;have k:=oz W p q bs hq (de g hp) (hr.G hp g);have e:nR q=FT.wrd true V:=by
   show FT.wrd (decide (q.num<0)) (rdV 1 (decide (q.num<0)) q.num.natAbs q.den)=_;rw[hs,hV]
  rw[e] at k;exact k
 have d:Hid (∀ W,G w W→Calls Tryz.prog 23 #[u] W fun e K=>e= .returned (.int .i64 (-1))∧G W K):=fun W g=>by
  have k:=mK W u q (hu.G g);rw[q5D bs,hs] at k;exact k
 have y:Hid (∀ W:World,Calls Tryz.prog 144 #[.float .f64 0,.float .f64 13830554455654793216] W fun e K=>e= .returned (.float .f64 (FT.wrd true 0))∧G W K):=fun W=>rN true W;have eb:=q2q;have di:Hid (∀ W:World,Calls Tryz.prog 101 #[.float .f64 (FT.wrd true V),.int .i64 1] W fun e K=>e= .returned (.bool false)∧G W K):=fun W=>qQ true V W ai;have an:Hid (∀ W:World,Calls Tryz.prog 101 #[.float .f64 (FT.wrd true V),.int .i64 (-1)] W fun e K=>e= .returned (.bool (decide (V=2047*2^52)))∧G W K):=fun W=>qP true V W ai;have C:Hid (V<2047*2^52→∀ W,Calls Tryz.prog 38 #[.float .f64 (FT.wrd true V)] W (RetP W (FQ (FT.wrd true V)))):=fun h W=>by
  have hx:=(fq_v true h).2;have cr:=FT.wrd_lt true V eX;rw[ko cr hx];exact lj W _ cr hx
 have B:Hid (V<2047*2^52→∀ W v,G w W→PR W v (FQ (FT.wrd true V))→_):=fun h W v g hv=>jB W v u _ q 400 eX ((q5A (fq_v true h).2).mono eX) hq hv (hu.G g);have cl:Hid (∀ W:World,Calls Tryz.prog 211 #[.int .i64 (-1)] W fun e K=>e= .returned (.float .f64 FT.ninf)∧G W K):=fun W=>q2X W;have bz:Hid (∀ W:World,Calls Tryz.prog 211 #[.int .i64 1] W fun e K=>e= .returned (.float .f64 FT.infR)∧G W K):=fun W=>q0H 1 W eX;have c:Hid True:=trivial;have bv:True:=trivial;have ce:=gH true (V:=V) eX;clear hT hl hV hs hA bs cz hq h0;go_enter Tryz.func202,Tryz.ntmps202;go_wp2_with fail;refine eW (HF.out w (ad _)) ?_;rintro e wa ⟨xx,rfl,ga⟩;go_wp2_with fail;refine eW (d.out wa ga) ?_;rintro e wb ⟨rfl,gb⟩;by_cases al:V=0
 focus
  rw[decide_eq_true al] at ce;have bn:Hid (V=0):=al;clear al;go_wp2_with fail;refine eW (d.out wb gv) ?_;rintro e wc ⟨rfl,gc⟩;go_wp2_with fail;have ci:Hid (∀ W:World,Calls Tryz.prog 144 #[.float .f64 0,.float .f64 13830554455654793216] W fun e K=>e= .returned (.float .f64 (FT.wrd true V))∧G W K):=fun W=>by rw[bn.out];exact y.out W
  refine eW (ci.out wc) ?_;rintro e w2 ⟨rfl,gd⟩;have g2:G w w2:=gv;clear ga gb gc gd ci;clear HF;rcases hm with rfl|hm
  ·go_wp2_with fail;go_ret;exact⟨by rw[bl.out];first|done|rfl,g2⟩
  have af:(m==1)=false:=by simp;omega
  clear ce bn bl ai
 rotate_left
 focus
  rw[decide_eq_false al] at ce;have bn:Hid (V≠0):=al;clear al
  skip
  obtain⟨w2,bi⟩:∃ w2,w2=wb:=⟨_,rfl⟩;rw[← bi];have g2:G w w2:=by rw[bi];exact ab ga gb
  clear ga gb bi;clear HF;rcases hm with rfl|hm
  ·go_wp2_with fail;go_ret;exact⟨by rw[bl.out];first|done|rfl,g2⟩
  have af:(m==1)=false:=by simp;omega
  clear bn bl ai
 all_goals
  go_wp2_with fail;refine eW (di.out w2) ?_;rintro e w3 ⟨rfl,g3⟩;by_cases R:V=2047*2^52
  ·obtain⟨lo,J⟩:∃ lo,lo=FT.wrd true V:=⟨_,rfl⟩;have cd:T+1=V:=by rcases ag with h|h<;>omega
   have E:l≠0:=am cd.symm;have dq:(FloatKind.f64.format.order 18442240474082181119 0==some .eq)=false:=by decide+kernel
   have ea:(FloatKind.f64.format.order lo 0==some .eq)=false:=by rw[J,gH true eX];exact decide_eq_false eX
   have cc:Hid (FT.wrd true T=18442240474082181119):=by show _=_;rw[show T=2047*2^52-1 from by omega];rfl
   have S:Hid (rdW 2 q=lo):=by show _=_;rw[Y.out,if_pos E,cd,J]
   have L:Hid (rdW 3 q=18442240474082181119):=by show _=_;rw[i.out,cc.out]
   have M:Hid (rdW 4 q=18442240474082181119):=by show _=_;rw[Z.out,cc.out]
   rw[decide_eq_true R] at an;rw[← J] at an ⊢;clear J cd E R cc bu ag am C B c Y i Z;go_wp2_with fail;refine eW (an.out w3) ?_;rintro e w4 ⟨rfl,g4⟩;clear af;rcases hm with rfl|rfl|rfl
   all_goals
    go_wp2_with (first|(go_at_call 23;refine(d.out _ gv).mono ?_;rintro e wn ⟨rfl,N⟩)|(go_at_call 144;refine(y.out _).mono ?_;rintro e wn ⟨rfl,N⟩));go_ret
    first|exact⟨by rw[S.out];first|done|rfl,gv⟩|exact⟨by rw[L.out];first|done|rfl,gv⟩|exact⟨by rw[M.out];first|done|rfl,gv⟩
  ·have I:V<2047*2^52:=by omega
   rw[decide_eq_false R] at an;go_wp2_with fail;refine eW (an.out w3) ?_;rintro e w4 ⟨rfl,g4⟩;go_wp2_with fail;refine eW (C.out I w4) ?_;rintro e w5 ⟨v5,rfl,g5,k5⟩;have bm:Hid (PR w5 v5 (FQ (FT.wrd true V))):=k5;clear k5;go_wp2_with fail;refine eW (B.out I w5 v5 gv bm.out) ?_;rintro e w6 ⟨rfl,g6⟩;have A:=(bq.out I);by_cases E:l=0
   ·have F:V=T:=by rcases ag with h|h;exact h;exact absurd E (am h)
    rw[if_pos E] at A;rw[A];obtain⟨lo,J⟩:∃ lo,lo=FT.wrd true V:=⟨_,rfl⟩;have cs:V≠0:=by rw[F];exact dl.out E
    have dq:(FloatKind.f64.format.order lo 0==some .eq)=false:=by rw[J,gH true eX];exact decide_eq_false cs
    have S:Hid (rdW 2 q=lo):=by show _=_;rw[Y.out,if_neg (by simpa using E),← F,J]
    have L:Hid (rdW 3 q=lo):=by show _=_;rw[i.out,← F,J]
    have M:Hid (rdW 4 q=lo):=by show _=_;rw[Z.out,← F,J]
    rw[← J] at C B bm ⊢;have C:Hid (∀ W,_):=fun W=>C.out I W;have B:Hid (∀ W v,G w W→PR W v (FQ lo)→Calls Tryz.prog 25 #[v,u] W fun e K=>e= .returned (.int .i64 0)∧G W K):=fun W v g h=>by have k:=B.out I W v g h;rw[J] at k;rw[A] at k;exact k
    clear J F E cs R I A bu ag am c Y i Z bq;go_wp2_with fail;refine eW (C.out w6) ?_;rintro e w7 ⟨v7,rfl,g7,k7⟩;have cb:Hid (PR w7 v7 (FQ lo)):=k7;clear k7;go_wp2_with fail;refine eW (B.out w7 v7 gv cb.out) ?_;rintro e w8 ⟨rfl,g8⟩;clear af;rcases hm with rfl|rfl|rfl
    all_goals
     go_wp2_with (first|(go_at_call 23;refine(d.out _ gv).mono ?_;rintro e wn ⟨rfl,N⟩)|(go_at_call 144;refine(y.out _).mono ?_;rintro e wn ⟨rfl,N⟩));go_ret
     first|exact⟨by rw[S.out];first|done|rfl,gv⟩|exact⟨by rw[L.out];first|done|rfl,gv⟩|exact⟨by rw[M.out];first|done|rfl,gv⟩
   ·rw[if_neg E] at A;by_cases F:V=T
    ·skip
     rw[if_pos F] at A;simp only[if_true] at A;rw[A];obtain⟨O,s⟩:∃ O,O=FT.wrd true V:=⟨_,rfl⟩;obtain⟨j,o⟩:∃ j,j=FT.wrd true (T+1):=⟨_,rfl⟩;have D:Hid (FT.wrd true T=O):=by show _=_;rw[s,F]
     have U:Hid (FT.wrd true (T+1)=j):=by show _=_;rw[o]
     have dr:(FloatKind.f64.format.order j 0==some .eq)=false:=by rw[← U.out,gH true eX];exact decide_eq_false eX
     have ap:(FloatKind.f64.format.order O 0==some .eq)=decide (T=0):=by rw[← D.out,gH true eX]
     have S:Hid (rdW 2 q=j):=by show _=_;rw[Y.out,if_pos E,U.out]
     have L:Hid (rdW 3 q=O):=by show _=_;rw[i.out,D.out]
     have M:Hid (rdW 4 q=O):=by show _=_;rw[Z.out,D.out]
     have c:Hid (∀ W,Calls Tryz.prog 60 #[.float .f64 O,.float .f64 FT.ninf] W fun e K=>e= .returned (.float .f64 j)∧G W K):=fun W=>by
      have k:=jP O W (by rw[s];exact FT.wrd_lt true _ eX);have e:mo O=j:=by rw[← D.out,q2x (V:=T) eX];exact U.out
      rw[e] at k;exact k
     rw[← s] at C B bm ⊢;have C:Hid (∀ W,_):=fun W=>C.out I W;have B:Hid (∀ W v,G w W→PR W v (FQ O)→Calls Tryz.prog 25 #[v,u] W fun e K=>e= .returned (.int .i64 1)∧G W K):=fun W v g h=>by have k:=B.out I W v g h;rw[s] at k;rw[A] at k;exact k
     obtain⟨t0,X⟩:∃ t0,t0=decide (T=0):=⟨_,rfl⟩;rw[← X] at ap;have ca:Hid (t0=true→O=FT.wrd true 0):=fun h=>by rw[h] at X;rw[← D.out,of_decide_eq_true X.symm]
     clear bv X s o F E R I A bu ag am Y i Z bq D U;go_wp2_with fail;refine eW (C.out w6) ?_;rintro e w7 ⟨v7,rfl,g7,k7⟩;have cb:Hid (PR w7 v7 (FQ O)):=k7;clear k7;go_wp2_with fail;refine eW (B.out w7 v7 gv cb.out) ?_;rintro e w8 ⟨rfl,g8⟩;go_wp2_with fail;refine eW (cl.out w8) ?_;rintro e w9 ⟨rfl,g9⟩;go_wp2_with fail;refine eW (c.out w9) ?_;rintro e ds ⟨rfl,g10⟩;cases t0
     ·skip
      clear af;rcases hm with rfl|rfl|rfl
      all_goals
       go_wp2_with (first|(go_at_call 23;refine(d.out _ gv).mono ?_;rintro e wn ⟨rfl,N⟩)|(go_at_call 144;refine(y.out _).mono ?_;rintro e wn ⟨rfl,N⟩));go_ret
       first|exact⟨by rw[S.out];first|done|rfl,gv⟩|exact⟨by rw[L.out];first|done|rfl,gv⟩|exact⟨by rw[M.out];first|done|rfl,gv⟩
     ·rw[ca.out rfl] at ap c L M ⊢;clear af;rcases hm with rfl|rfl|rfl
      all_goals
       go_wp2_with (first|(go_at_call 23;refine(d.out _ gv).mono ?_;rintro e wn ⟨rfl,N⟩)|(go_at_call 144;refine(y.out _).mono ?_;rintro e wn ⟨rfl,N⟩));go_ret
       first|exact⟨by rw[S.out];first|done|rfl,gv⟩|exact⟨by rw[L.out];first|done|rfl,gv⟩|exact⟨by rw[M.out];first|done|rfl,gv⟩
    ·skip
     rw[if_neg F] at A;simp only[if_true] at A;rw[A];have bw:V=T+1:=by rcases ag with h|h;exact absurd h F;exact h
     obtain⟨j,o⟩:∃ j,j=FT.wrd true V:=⟨_,rfl⟩;obtain⟨O,s⟩:∃ O,O=FT.wrd true T:=⟨_,rfl⟩;have D:Hid (FT.wrd true T=O):=s.symm;have U:Hid (FT.wrd true (T+1)=j):=by show _=_;rw[o,bw]
     have dr:(FloatKind.f64.format.order j 0==some .eq)=false:=by rw[← U.out,gH true eX];exact decide_eq_false eX
     have ap:(FloatKind.f64.format.order O 0==some .eq)=decide (T=0):=by rw[← D.out,gH true eX]
     have S:Hid (rdW 2 q=j):=by show _=_;rw[Y.out,if_pos E,U.out]
     have L:Hid (rdW 3 q=O):=by show _=_;rw[i.out,D.out]
     have M:Hid (rdW 4 q=O):=by show _=_;rw[Z.out,D.out]
     have c:Hid (∀ W,Calls Tryz.prog 60 #[.float .f64 j,.float .f64 FT.infR] W fun e K=>e= .returned (.float .f64 O)∧G W K):=fun W=>by
      have k:=js j W (by rw[o];exact FT.wrd_lt true _ eX);have e:upV j=O:=by rw[← U.out,q6I (V:=T) eX];exact D.out
      rw[e] at k;exact k
     rw[← o] at C B bm ⊢;have C:Hid (∀ W,_):=fun W=>C.out I W;have B:Hid (∀ W v,G w W→PR W v (FQ j)→Calls Tryz.prog 25 #[v,u] W fun e K=>e= .returned (.int .i64 (-1))∧G W K):=fun W v g h=>by have k:=B.out I W v g h;rw[o] at k;rw[A] at k;exact k
     obtain⟨t0,X⟩:∃ t0,t0=decide (T=0):=⟨_,rfl⟩;rw[← X] at ap;have ca:Hid (t0=true→O=FT.wrd true 0):=fun h=>by rw[h] at X;rw[← D.out,of_decide_eq_true X.symm]
     clear bw bv X s o F E R I A bu ag am Y i Z bq D U;go_wp2_with fail;refine eW (bz.out w6) ?_;rintro e w9 ⟨rfl,g9⟩;go_wp2_with fail;refine eW (c.out w9) ?_;rintro e ds ⟨rfl,g10⟩;cases t0
     ·skip
      clear af;rcases hm with rfl|rfl|rfl
      all_goals
       go_wp2_with (first|(go_at_call 23;refine(d.out _ gv).mono ?_;rintro e wn ⟨rfl,N⟩)|(go_at_call 144;refine(y.out _).mono ?_;rintro e wn ⟨rfl,N⟩));go_ret
       first|exact⟨by rw[S.out];first|done|rfl,gv⟩|exact⟨by rw[L.out];first|done|rfl,gv⟩|exact⟨by rw[M.out];first|done|rfl,gv⟩
     ·rw[ca.out rfl] at ap c L M ⊢;clear af;rcases hm with rfl|rfl|rfl
      all_goals
       go_wp2_with (first|(go_at_call 23;refine(d.out _ gv).mono ?_;rintro e wn ⟨rfl,N⟩)|(go_at_call 144;refine(y.out _).mono ?_;rintro e wn ⟨rfl,N⟩));go_ret
       first|exact⟨by rw[S.out];first|done|rfl,gv⟩|exact⟨by rw[L.out];first|done|rfl,gv⟩|exact⟨by rw[M.out];first|done|rfl,gv⟩
end Go.Proofs.YtohcneeihdkfgaaGreatDoor.EN
