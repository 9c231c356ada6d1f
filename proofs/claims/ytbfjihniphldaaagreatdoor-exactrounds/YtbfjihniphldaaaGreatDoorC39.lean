/- What is proved here: the reference's rounding of a fraction, over this seat's translation. -/
import Derived.Test.YtbfjihniphldaaaGreatDoorC14
import Derived.Test.YtbfjihniphldaaaGreatDoorC37
namespace Go.Proofs.YtbfjihniphldaaaGreatDoor.EN
open Go.ChangeShapes Go.WideShapes Go.ChangeAt Go.RowKit
attribute [local go_sem] q0i q0q
theorem q3m (w:World) (u v:Value) (x y:Rat) (K:Nat) (hK:K≤40000) (qx:QB x K) (qy:QB y K) (hu:PR w u x) (hv:PR w v y):
  Calls Tryz.prog 65 #[u,v] w fun e w'=>e= .returned (.int .i64 (x.num*y.den-y.num*x.den).sign)∧G w w':=by
 obtain⟨bx,rfl,hbx,hx⟩:=hu;obtain⟨b2,rfl,hby,hy⟩:=hv;exact qbs w bx b2 x y K hK qx qy hbx hby (Or.inl hx) (Or.inl hy)
theorem q9M (w:World):Calls Tryz.prog 66 #[.int .i64 (-1)] w fun e w'=>e= .returned (.float .f64 FT.ninf)∧G w w':=by
 go_enter Tryz.func66,Tryz.ntmps66;go_wp2;go_ret;exact⟨rfl,G.refl _⟩
theorem qbK {q:Rat} (h0:q≠0):q.num.sign=if decide (q.num<0)=true then -1 else 1:=qbq h0
set_option maxHeartbeats 4000000 in
set_option maxRecDepth 10000 in
/-- Rounding of a fraction above 0. -/
theorem q6q (w:World) (u:Value) (q:Rat) (m:Int) (h0:0<q.num) (hq:QB q 400) (hm:m=1∨m=2∨m=3∨m=4) (hu:PR w u q):
  Calls Tryz.prog 18 #[u,.int .i64 m] w fun e w'=>e= .returned (.float .f64 (rdW m q))∧G w w':=by
 have hs:decide (q.num<0)=false:=decide_eq_false (by omega);have hq0:q≠0:=by rintro rfl;exact absurd h0 (by decide)
 have hA:q.num.natAbs≠0:=by omega
 obtain⟨T,hT⟩:∃ T,T=tV q.num.natAbs q.den:=⟨_,rfl⟩;obtain⟨l,hl⟩:∃ l,l=lV q.num.natAbs q.den:=⟨_,rfl⟩;obtain⟨V,hV⟩:∃ V,V=rdV 1 false q.num.natAbs q.den:=⟨_,rfl⟩;obtain⟨hw1,hw2,hw3,hw4⟩:=q54 hq0 hs.symm hT hl hV;have mZ:Hid _:=hw4;have HT0:Hid (l=0→T≠0):=fun h e=>by
  have k:=(q1V hA q.den_nz).2.2.1 (by rw[← hl];exact h);rw[← hT,e,show FT.v 0=0 from by decide,Nat.zero_mul] at k;have:=Nat.mul_pos (Nat.pos_of_ne_zero hA) (Nat.two_pow_pos 1074);omega
 have eH:Hid (rdW 2 q=FT.wrd false T):=by show _=_;unfold rdW;rw[hs,q5W,← hT,← hl];congr 1;simp
 have gW:Hid (rdW 3 q=FT.wrd false (if l≠0 then T+1 else T)):=by show _=_;unfold rdW;rw[hs,qbT,← hT,← hl];congr 1;simp
 have fM:Hid (rdW 4 q=FT.wrd false T):=by show _=_;unfold rdW;rw[hs,qc0,← hT]
 have wh:Hid (rdW 1 q=FT.wrd false V):=by show _=_;unfold rdW;rw[hs,hV]
 have lW:V≤2047*2^52:=by rw[hV];exact qbI 1 false hA q.den_nz
 have HF:Hid (∀ W,G w W→Calls Tryz.prog 63 #[u] W (q7D W (FT.wrd false V))):=fun W g=>by
  obtain⟨p,rfl,hp,hr⟩:=hu;have k:=q4V W p q hq0 hq (G.lt g hp) (hr.G hp g);have e:nR q=FT.wrd false V:=by
   show FT.wrd (decide (q.num<0)) (rdV 1 (decide (q.num<0)) q.num.natAbs q.den)=_;rw[hs,hV]
  rw[e] at k;exact k
 have fU:Hid (∀ W,G w W→Calls Tryz.prog 19 #[u] W fun e w'=>e= .returned (.int .i64 1)∧G W w'):=fun W g=>by
  have k:=q3s W u q (hu.G g);rw[qbK hq0,hs] at k;exact k
 have ig:Hid (∀ W:World,Calls Tryz.prog 64 #[.float .f64 0,.float .f64 4607182418800017408] W fun e w'=>e= .returned (.float .f64 (FT.wrd false 0))∧G W w'):=fun W=>q69 false W;have hcv:=q8x;have HI1:Hid (∀ W:World,Calls Tryz.prog 42 #[.float .f64 (FT.wrd false V),.int .i64 1] W fun e w'=>e= .returned (.bool (decide (V=2047*2^52)))∧G W w'):=fun W=>q64 false V W lW;have HI2:Hid (∀ W:World,Calls Tryz.prog 42 #[.float .f64 (FT.wrd false V),.int .i64 (-1)] W fun e w'=>e= .returned (.bool false)∧G W w'):=fun W=>q6s false V W lW;have bL:Hid (V<2047*2^52→∀ W,Calls Tryz.prog 10 #[.float .f64 (FT.wrd false V)] W (RetP W (FQ (FT.wrd false V)))):=fun h W=>by
  have hx:=(fq_v false h).2;have h64:=FT.wrd_lt false V (by omega);rw[q5x h64 hx];exact q41 W _ h64 hx
 have bI:Hid (V<2047*2^52→∀ W v,G w W→PR W v (FQ (FT.wrd false V))→_):=fun h W v g hv=>q3m W v u _ q 400 (by omega) ((qbg (fq_v false h).2).mono (by omega)) hq hv (hu.G g);have uh:Hid (∀ W:World,Calls Tryz.prog 66 #[.int .i64 (-1)] W fun e w'=>e= .returned (.float .f64 FT.ninf)∧G W w'):=fun W=>q9M W;have ng:Hid (∀ W:World,Calls Tryz.prog 66 #[.int .i64 1] W fun e w'=>e= .returned (.float .f64 FT.infR)∧G W w'):=fun W=>q92 1 W (by omega);have fI:Hid True:=trivial;have lX:True:=trivial;have hzn:=q0l false (V:=V) (by omega);clear hT hl hV hs hA hq0 hw4 hq h0;go_enter Tryz.func18,Tryz.ntmps18;go_wp2_with fail;refine q00 (HF.out w (G.refl _)) ?_;rintro e wa ⟨xx,rfl,ga⟩;go_wp2_with fail;refine q00 (fU.out wa ga) ?_;rintro e wb ⟨rfl,gb⟩;by_cases o9:V=0
 ·skip
  rw[decide_eq_true o9] at hzn;have qJ:Hid (V=0):=o9;clear o9;go_wp2_with fail;refine q00 (fU.out wb (by repeat' (first|exact G.refl _|assumption|refine G.alloc ?_ _|refine G.drew ?_ |refine G.drewN ?_ _|(refine G.trans ?_ (by assumption))))) ?_;rintro e wc ⟨rfl,gc⟩;go_wp2_with fail;have uu:Hid (∀ W:World,Calls Tryz.prog 64 #[.float .f64 0,.float .f64 4607182418800017408] W fun e w'=>e= .returned (.float .f64 (FT.wrd false V))∧G W w'):=fun W=>by rw[qJ.out];exact ig.out W
  refine q00 (uu.out wc) ?_;rintro e w2 ⟨rfl,gd⟩;have g2:G w w2:=(by repeat' (first|exact G.refl _|assumption|refine G.alloc ?_ _|refine G.drew ?_ |refine G.drewN ?_ _|(refine G.trans ?_ (by assumption))));clear ga gb gc gd uu;clear HF;rcases hm with rfl|hm
  ·go_wp2_with fail;go_ret;exact⟨by rw[wh.out];first|done|rfl,g2⟩
  ·have hm1:(m==1)=false:=by simp;omega
   clear hzn qJ wh lW;go_wp2_with fail;refine q00 (HI1.out w2) ?_;rintro e w3 ⟨rfl,g3⟩;by_cases cK:V=2047*2^52
   ·obtain⟨lo,hlo⟩:∃ lo,lo=FT.wrd false V:=⟨_,rfl⟩;have oz:T+1=V:=by rcases hw2 with h|h<;>omega
    have hl0:l≠0:=hw3 oz.symm;have HZ1:(FloatKind.f64.format.order 9218868437227405311 0==some .eq)=false:=by decide+kernel
    have HZ2:(FloatKind.f64.format.order lo 0==some .eq)=false:=by rw[hlo,q0l false (by omega)];exact decide_eq_false (by omega)
    have HT1:Hid (FT.wrd false T=9218868437227405311):=by show _=_;rw[show T=2047*2^52-1 from by omega];rfl
    have dZ:Hid (rdW 3 q=lo):=by show _=_;rw[gW.out,if_pos hl0,oz,hlo]
    have ed:Hid (rdW 2 q=9218868437227405311):=by show _=_;rw[eH.out,HT1.out]
    have dm:Hid (rdW 4 q=9218868437227405311):=by show _=_;rw[fM.out,HT1.out]
    rw[decide_eq_true cK];rw[← hlo] at HI2 ⊢;clear hlo oz hl0 cK HT1 hw1 hw2 hw3 bL bI fI eH gW fM;clear hm1;rcases hm with rfl|rfl|rfl
    all_goals
     go_wp2_with (first|(go_at_call 19;refine(fU.out _ (by repeat' (first|exact G.refl _|assumption|refine G.alloc ?_ _|refine G.drew ?_ |refine G.drewN ?_ _|(refine G.trans ?_ (by assumption))))).mono ?_;rintro e wn ⟨rfl,hbn⟩)|(go_at_call 64;refine(ig.out _).mono ?_;rintro e wn ⟨rfl,hbn⟩));go_ret
     first|exact⟨by rw[ed.out];first|done|rfl,(by repeat' (first|exact G.refl _|assumption|refine G.alloc ?_ _|refine G.drew ?_ |refine G.drewN ?_ _|(refine G.trans ?_ (by assumption))))⟩|exact⟨by rw[dZ.out];first|done|rfl,(by repeat' (first|exact G.refl _|assumption|refine G.alloc ?_ _|refine G.drew ?_ |refine G.drewN ?_ _|(refine G.trans ?_ (by assumption))))⟩|exact⟨by rw[dm.out];first|done|rfl,(by repeat' (first|exact G.refl _|assumption|refine G.alloc ?_ _|refine G.drew ?_ |refine G.drewN ?_ _|(refine G.trans ?_ (by assumption))))⟩
   ·have dD:V<2047*2^52:=by omega
    rw[decide_eq_false cK];go_wp2_with fail;refine q00 (HI2.out w3) ?_;rintro e w4 ⟨rfl,g4⟩;go_wp2_with fail;refine q00 (bL.out dD w4) ?_;rintro e w5 ⟨v5,rfl,g5,k5⟩;have jV:Hid (PR w5 v5 (FQ (FT.wrd false V))):=k5;clear k5;go_wp2_with fail;refine q00 (bI.out dD w5 v5 (by repeat' (first|exact G.refl _|assumption|refine G.alloc ?_ _|refine G.drew ?_ |refine G.drewN ?_ _|(refine G.trans ?_ (by assumption)))) jV.out) ?_;rintro e w6 ⟨rfl,g6⟩;have hc6:=(mZ.out dD);by_cases hl0:l=0
    ·have df:V=T:=by rcases hw2 with h|h;exact h;exact absurd hl0 (hw3 h)
     rw[if_pos hl0] at hc6;rw[hc6];obtain⟨lo,hlo⟩:∃ lo,lo=FT.wrd false V:=⟨_,rfl⟩;have hT0:V≠0:=by rw[df];exact HT0.out hl0
     have HZ1:(FloatKind.f64.format.order lo 0==some .eq)=false:=by rw[hlo,q0l false (by omega)];exact decide_eq_false hT0
     have dZ:Hid (rdW 3 q=lo):=by show _=_;rw[gW.out,if_neg (by simpa using hl0),← df,hlo]
     have ed:Hid (rdW 2 q=lo):=by show _=_;rw[eH.out,← df,hlo]
     have dm:Hid (rdW 4 q=lo):=by show _=_;rw[fM.out,← df,hlo]
     rw[← hlo] at bL bI jV ⊢;have bL:Hid (∀ W,_):=fun W=>bL.out dD W;have bI:Hid (∀ W v,G w W→PR W v (FQ lo)→Calls Tryz.prog 65 #[v,u] W fun e w'=>e= .returned (.int .i64 0)∧G W w'):=fun W v g h=>by have k:=bI.out dD W v g h;rw[hlo] at k;rw[hc6] at k;exact k
     clear hlo df hl0 hT0 cK dD hc6 hw1 hw2 hw3 fI eH gW fM mZ;go_wp2_with fail;refine q00 (bL.out w6) ?_;rintro e w7 ⟨v7,rfl,g7,k7⟩;have dC:Hid (PR w7 v7 (FQ lo)):=k7;clear k7;go_wp2_with fail;refine q00 (bI.out w7 v7 (by repeat' (first|exact G.refl _|assumption|refine G.alloc ?_ _|refine G.drew ?_ |refine G.drewN ?_ _|(refine G.trans ?_ (by assumption)))) dC.out) ?_;rintro e w8 ⟨rfl,g8⟩;clear hm1;rcases hm with rfl|rfl|rfl
     all_goals
      go_wp2_with (first|(go_at_call 19;refine(fU.out _ (by repeat' (first|exact G.refl _|assumption|refine G.alloc ?_ _|refine G.drew ?_ |refine G.drewN ?_ _|(refine G.trans ?_ (by assumption))))).mono ?_;rintro e wn ⟨rfl,hbn⟩)|(go_at_call 64;refine(ig.out _).mono ?_;rintro e wn ⟨rfl,hbn⟩));go_ret
      first|exact⟨by rw[ed.out];first|done|rfl,(by repeat' (first|exact G.refl _|assumption|refine G.alloc ?_ _|refine G.drew ?_ |refine G.drewN ?_ _|(refine G.trans ?_ (by assumption))))⟩|exact⟨by rw[dZ.out];first|done|rfl,(by repeat' (first|exact G.refl _|assumption|refine G.alloc ?_ _|refine G.drew ?_ |refine G.drewN ?_ _|(refine G.trans ?_ (by assumption))))⟩|exact⟨by rw[dm.out];first|done|rfl,(by repeat' (first|exact G.refl _|assumption|refine G.alloc ?_ _|refine G.drew ?_ |refine G.drewN ?_ _|(refine G.trans ?_ (by assumption))))⟩
    ·rw[if_neg hl0] at hc6;by_cases df:V=T
     ·skip
      rw[if_pos df] at hc6;simp only[Bool.false_eq_true,if_false] at hc6;rw[hc6];obtain⟨nr,hnr⟩:∃ nr,nr=FT.wrd false V:=⟨_,rfl⟩;obtain⟨fr,hfr⟩:∃ fr,fr=FT.wrd false (T+1):=⟨_,rfl⟩;have cO:Hid (FT.wrd false T=nr):=by show _=_;rw[hnr,df]
      have fG:Hid (FT.wrd false (T+1)=fr):=by show _=_;rw[hfr]
      have Ap:(FloatKind.f64.format.order fr 0==some .eq)=false:=by rw[← fG.out,q0l false (by omega)];exact decide_eq_false (by omega)
      have jQ:(FloatKind.f64.format.order nr 0==some .eq)=decide (T=0):=by rw[← cO.out,q0l false (by omega)]
      have dZ:Hid (rdW 3 q=fr):=by show _=_;rw[gW.out,if_pos hl0,fG.out]
      have ed:Hid (rdW 2 q=nr):=by show _=_;rw[eH.out,cO.out]
      have dm:Hid (rdW 4 q=nr):=by show _=_;rw[fM.out,cO.out]
      have fI:Hid (∀ W,Calls Tryz.prog 39 #[.float .f64 nr,.float .f64 FT.infR] W fun e w'=>e= .returned (.float .f64 fr)∧G W w'):=fun W=>by
       have k:=q0X nr W (by rw[hnr];exact FT.wrd_lt false _ (by omega));have e:upV nr=fr:=by rw[← cO.out,q7x (V:=T) (by omega)];exact fG.out
       rw[e] at k;exact k
      rw[← hnr] at bL bI jV ⊢;have bL:Hid (∀ W,_):=fun W=>bL.out dD W;have bI:Hid (∀ W v,G w W→PR W v (FQ nr)→Calls Tryz.prog 65 #[v,u] W fun e w'=>e= .returned (.int .i64 (-1))∧G W w'):=fun W v g h=>by have k:=bI.out dD W v g h;rw[hnr] at k;rw[hc6] at k;exact k
      obtain⟨t0,ht0⟩:∃ t0,t0=decide (T=0):=⟨_,rfl⟩;rw[← ht0] at jQ;have oC:Hid (t0=true→nr=FT.wrd false 0):=fun h=>by rw[h] at ht0;rw[← cO.out,of_decide_eq_true ht0.symm]
      clear lX ht0 hnr hfr df hl0 cK dD hc6 hw1 hw2 hw3 eH gW fM mZ cO fG;go_wp2_with fail;refine q00 (ng.out w6) ?_;rintro e w9 ⟨rfl,g9⟩;go_wp2_with fail;refine q00 (fI.out w9) ?_;rintro e aR ⟨rfl,g10⟩;cases t0
      ·skip
       clear hm1;rcases hm with rfl|rfl|rfl
       all_goals
        go_wp2_with (first|(go_at_call 19;refine(fU.out _ (by repeat' (first|exact G.refl _|assumption|refine G.alloc ?_ _|refine G.drew ?_ |refine G.drewN ?_ _|(refine G.trans ?_ (by assumption))))).mono ?_;rintro e wn ⟨rfl,hbn⟩)|(go_at_call 64;refine(ig.out _).mono ?_;rintro e wn ⟨rfl,hbn⟩));go_ret
        first|exact⟨by rw[ed.out];first|done|rfl,(by repeat' (first|exact G.refl _|assumption|refine G.alloc ?_ _|refine G.drew ?_ |refine G.drewN ?_ _|(refine G.trans ?_ (by assumption))))⟩|exact⟨by rw[dZ.out];first|done|rfl,(by repeat' (first|exact G.refl _|assumption|refine G.alloc ?_ _|refine G.drew ?_ |refine G.drewN ?_ _|(refine G.trans ?_ (by assumption))))⟩|exact⟨by rw[dm.out];first|done|rfl,(by repeat' (first|exact G.refl _|assumption|refine G.alloc ?_ _|refine G.drew ?_ |refine G.drewN ?_ _|(refine G.trans ?_ (by assumption))))⟩
      ·rw[oC.out rfl] at jQ fI ed dm ⊢;clear hm1;rcases hm with rfl|rfl|rfl
       all_goals
        go_wp2_with (first|(go_at_call 19;refine(fU.out _ (by repeat' (first|exact G.refl _|assumption|refine G.alloc ?_ _|refine G.drew ?_ |refine G.drewN ?_ _|(refine G.trans ?_ (by assumption))))).mono ?_;rintro e wn ⟨rfl,hbn⟩)|(go_at_call 64;refine(ig.out _).mono ?_;rintro e wn ⟨rfl,hbn⟩));go_ret
        first|exact⟨by rw[ed.out];first|done|rfl,(by repeat' (first|exact G.refl _|assumption|refine G.alloc ?_ _|refine G.drew ?_ |refine G.drewN ?_ _|(refine G.trans ?_ (by assumption))))⟩|exact⟨by rw[dZ.out];first|done|rfl,(by repeat' (first|exact G.refl _|assumption|refine G.alloc ?_ _|refine G.drew ?_ |refine G.drewN ?_ _|(refine G.trans ?_ (by assumption))))⟩|exact⟨by rw[dm.out];first|done|rfl,(by repeat' (first|exact G.refl _|assumption|refine G.alloc ?_ _|refine G.drew ?_ |refine G.drewN ?_ _|(refine G.trans ?_ (by assumption))))⟩
     ·skip
      rw[if_neg df] at hc6;simp only[Bool.false_eq_true,if_false] at hc6;rw[hc6];have jR:V=T+1:=by rcases hw2 with h|h;exact absurd h df;exact h
      obtain⟨fr,hfr⟩:∃ fr,fr=FT.wrd false V:=⟨_,rfl⟩;obtain⟨nr,hnr⟩:∃ nr,nr=FT.wrd false T:=⟨_,rfl⟩;have cO:Hid (FT.wrd false T=nr):=hnr.symm;have fG:Hid (FT.wrd false (T+1)=fr):=by show _=_;rw[hfr,jR]
      have Ap:(FloatKind.f64.format.order fr 0==some .eq)=false:=by rw[← fG.out,q0l false (by omega)];exact decide_eq_false (by omega)
      have jQ:(FloatKind.f64.format.order nr 0==some .eq)=decide (T=0):=by rw[← cO.out,q0l false (by omega)]
      have dZ:Hid (rdW 3 q=fr):=by show _=_;rw[gW.out,if_pos hl0,fG.out]
      have ed:Hid (rdW 2 q=nr):=by show _=_;rw[eH.out,cO.out]
      have dm:Hid (rdW 4 q=nr):=by show _=_;rw[fM.out,cO.out]
      have fI:Hid (∀ W,Calls Tryz.prog 39 #[.float .f64 fr,.float .f64 FT.ninf] W fun e w'=>e= .returned (.float .f64 nr)∧G W w'):=fun W=>by
       have k:=q15 fr W (by rw[hfr];exact FT.wrd_lt false _ (by omega));have e:q3H fr=nr:=by rw[← fG.out,q68 (V:=T) (by omega)];exact cO.out
       rw[e] at k;exact k
      rw[← hfr] at bL bI jV ⊢;have bL:Hid (∀ W,_):=fun W=>bL.out dD W;have bI:Hid (∀ W v,G w W→PR W v (FQ fr)→Calls Tryz.prog 65 #[v,u] W fun e w'=>e= .returned (.int .i64 1)∧G W w'):=fun W v g h=>by have k:=bI.out dD W v g h;rw[hfr] at k;rw[hc6] at k;exact k
      obtain⟨t0,ht0⟩:∃ t0,t0=decide (T=0):=⟨_,rfl⟩;rw[← ht0] at jQ;have oC:Hid (t0=true→nr=FT.wrd false 0):=fun h=>by rw[h] at ht0;rw[← cO.out,of_decide_eq_true ht0.symm]
      clear jR lX ht0 hnr hfr df hl0 cK dD hc6 hw1 hw2 hw3 eH gW fM mZ cO fG;go_wp2_with fail;refine q00 (bL.out w6) ?_;rintro e w7 ⟨v7,rfl,g7,k7⟩;have dC:Hid (PR w7 v7 (FQ fr)):=k7;clear k7;go_wp2_with fail;refine q00 (bI.out w7 v7 (by repeat' (first|exact G.refl _|assumption|refine G.alloc ?_ _|refine G.drew ?_ |refine G.drewN ?_ _|(refine G.trans ?_ (by assumption)))) dC.out) ?_;rintro e w8 ⟨rfl,g8⟩;go_wp2_with fail;refine q00 (uh.out w8) ?_;rintro e w9 ⟨rfl,g9⟩;go_wp2_with fail;refine q00 (fI.out w9) ?_;rintro e aR ⟨rfl,g10⟩;cases t0
      ·skip
       clear hm1;rcases hm with rfl|rfl|rfl
       all_goals
        go_wp2_with (first|(go_at_call 19;refine(fU.out _ (by repeat' (first|exact G.refl _|assumption|refine G.alloc ?_ _|refine G.drew ?_ |refine G.drewN ?_ _|(refine G.trans ?_ (by assumption))))).mono ?_;rintro e wn ⟨rfl,hbn⟩)|(go_at_call 64;refine(ig.out _).mono ?_;rintro e wn ⟨rfl,hbn⟩));go_ret
        first|exact⟨by rw[ed.out];first|done|rfl,(by repeat' (first|exact G.refl _|assumption|refine G.alloc ?_ _|refine G.drew ?_ |refine G.drewN ?_ _|(refine G.trans ?_ (by assumption))))⟩|exact⟨by rw[dZ.out];first|done|rfl,(by repeat' (first|exact G.refl _|assumption|refine G.alloc ?_ _|refine G.drew ?_ |refine G.drewN ?_ _|(refine G.trans ?_ (by assumption))))⟩|exact⟨by rw[dm.out];first|done|rfl,(by repeat' (first|exact G.refl _|assumption|refine G.alloc ?_ _|refine G.drew ?_ |refine G.drewN ?_ _|(refine G.trans ?_ (by assumption))))⟩
      ·rw[oC.out rfl] at jQ fI ed dm ⊢;clear hm1;rcases hm with rfl|rfl|rfl
       all_goals
        go_wp2_with (first|(go_at_call 19;refine(fU.out _ (by repeat' (first|exact G.refl _|assumption|refine G.alloc ?_ _|refine G.drew ?_ |refine G.drewN ?_ _|(refine G.trans ?_ (by assumption))))).mono ?_;rintro e wn ⟨rfl,hbn⟩)|(go_at_call 64;refine(ig.out _).mono ?_;rintro e wn ⟨rfl,hbn⟩));go_ret
        first|exact⟨by rw[ed.out];first|done|rfl,(by repeat' (first|exact G.refl _|assumption|refine G.alloc ?_ _|refine G.drew ?_ |refine G.drewN ?_ _|(refine G.trans ?_ (by assumption))))⟩|exact⟨by rw[dZ.out];first|done|rfl,(by repeat' (first|exact G.refl _|assumption|refine G.alloc ?_ _|refine G.drew ?_ |refine G.drewN ?_ _|(refine G.trans ?_ (by assumption))))⟩|exact⟨by rw[dm.out];first|done|rfl,(by repeat' (first|exact G.refl _|assumption|refine G.alloc ?_ _|refine G.drew ?_ |refine G.drewN ?_ _|(refine G.trans ?_ (by assumption))))⟩
 ·skip
  rw[decide_eq_false o9] at hzn;have qJ:Hid (V≠0):=o9;clear o9
  skip
  obtain⟨w2,oD⟩:∃ w2,w2=wb:=⟨_,rfl⟩;rw[← oD];have g2:G w w2:=by rw[oD];exact G.trans ga gb
  clear ga gb oD;clear HF;rcases hm with rfl|hm
  ·go_wp2_with fail;go_ret;exact⟨by rw[wh.out];first|done|rfl,g2⟩
  ·have hm1:(m==1)=false:=by simp;omega
   clear qJ wh lW;go_wp2_with fail;refine q00 (HI1.out w2) ?_;rintro e w3 ⟨rfl,g3⟩;by_cases cK:V=2047*2^52
   ·obtain⟨lo,hlo⟩:∃ lo,lo=FT.wrd false V:=⟨_,rfl⟩;have oz:T+1=V:=by rcases hw2 with h|h<;>omega
    have hl0:l≠0:=hw3 oz.symm;have HZ1:(FloatKind.f64.format.order 9218868437227405311 0==some .eq)=false:=by decide+kernel
    have HZ2:(FloatKind.f64.format.order lo 0==some .eq)=false:=by rw[hlo,q0l false (by omega)];exact decide_eq_false (by omega)
    have HT1:Hid (FT.wrd false T=9218868437227405311):=by show _=_;rw[show T=2047*2^52-1 from by omega];rfl
    have dZ:Hid (rdW 3 q=lo):=by show _=_;rw[gW.out,if_pos hl0,oz,hlo]
    have ed:Hid (rdW 2 q=9218868437227405311):=by show _=_;rw[eH.out,HT1.out]
    have dm:Hid (rdW 4 q=9218868437227405311):=by show _=_;rw[fM.out,HT1.out]
    rw[decide_eq_true cK];rw[← hlo] at HI2 ⊢;clear hlo oz hl0 cK HT1 hw1 hw2 hw3 bL bI fI eH gW fM;clear hm1;rcases hm with rfl|rfl|rfl
    all_goals
     go_wp2_with (first|(go_at_call 19;refine(fU.out _ (by repeat' (first|exact G.refl _|assumption|refine G.alloc ?_ _|refine G.drew ?_ |refine G.drewN ?_ _|(refine G.trans ?_ (by assumption))))).mono ?_;rintro e wn ⟨rfl,hbn⟩)|(go_at_call 64;refine(ig.out _).mono ?_;rintro e wn ⟨rfl,hbn⟩));go_ret
     first|exact⟨by rw[ed.out];first|done|rfl,(by repeat' (first|exact G.refl _|assumption|refine G.alloc ?_ _|refine G.drew ?_ |refine G.drewN ?_ _|(refine G.trans ?_ (by assumption))))⟩|exact⟨by rw[dZ.out];first|done|rfl,(by repeat' (first|exact G.refl _|assumption|refine G.alloc ?_ _|refine G.drew ?_ |refine G.drewN ?_ _|(refine G.trans ?_ (by assumption))))⟩|exact⟨by rw[dm.out];first|done|rfl,(by repeat' (first|exact G.refl _|assumption|refine G.alloc ?_ _|refine G.drew ?_ |refine G.drewN ?_ _|(refine G.trans ?_ (by assumption))))⟩
   ·have dD:V<2047*2^52:=by omega
    rw[decide_eq_false cK];go_wp2_with fail;refine q00 (HI2.out w3) ?_;rintro e w4 ⟨rfl,g4⟩;go_wp2_with fail;refine q00 (bL.out dD w4) ?_;rintro e w5 ⟨v5,rfl,g5,k5⟩;have jV:Hid (PR w5 v5 (FQ (FT.wrd false V))):=k5;clear k5;go_wp2_with fail;refine q00 (bI.out dD w5 v5 (by repeat' (first|exact G.refl _|assumption|refine G.alloc ?_ _|refine G.drew ?_ |refine G.drewN ?_ _|(refine G.trans ?_ (by assumption)))) jV.out) ?_;rintro e w6 ⟨rfl,g6⟩;have hc6:=(mZ.out dD);by_cases hl0:l=0
    ·have df:V=T:=by rcases hw2 with h|h;exact h;exact absurd hl0 (hw3 h)
     rw[if_pos hl0] at hc6;rw[hc6];obtain⟨lo,hlo⟩:∃ lo,lo=FT.wrd false V:=⟨_,rfl⟩;have hT0:V≠0:=by rw[df];exact HT0.out hl0
     have HZ1:(FloatKind.f64.format.order lo 0==some .eq)=false:=by rw[hlo,q0l false (by omega)];exact decide_eq_false hT0
     have dZ:Hid (rdW 3 q=lo):=by show _=_;rw[gW.out,if_neg (by simpa using hl0),← df,hlo]
     have ed:Hid (rdW 2 q=lo):=by show _=_;rw[eH.out,← df,hlo]
     have dm:Hid (rdW 4 q=lo):=by show _=_;rw[fM.out,← df,hlo]
     rw[← hlo] at bL bI jV ⊢;have bL:Hid (∀ W,_):=fun W=>bL.out dD W;have bI:Hid (∀ W v,G w W→PR W v (FQ lo)→Calls Tryz.prog 65 #[v,u] W fun e w'=>e= .returned (.int .i64 0)∧G W w'):=fun W v g h=>by have k:=bI.out dD W v g h;rw[hlo] at k;rw[hc6] at k;exact k
     clear hlo df hl0 hT0 cK dD hc6 hw1 hw2 hw3 fI eH gW fM mZ;go_wp2_with fail;refine q00 (bL.out w6) ?_;rintro e w7 ⟨v7,rfl,g7,k7⟩;have dC:Hid (PR w7 v7 (FQ lo)):=k7;clear k7;go_wp2_with fail;refine q00 (bI.out w7 v7 (by repeat' (first|exact G.refl _|assumption|refine G.alloc ?_ _|refine G.drew ?_ |refine G.drewN ?_ _|(refine G.trans ?_ (by assumption)))) dC.out) ?_;rintro e w8 ⟨rfl,g8⟩;clear hm1;rcases hm with rfl|rfl|rfl
     all_goals
      go_wp2_with (first|(go_at_call 19;refine(fU.out _ (by repeat' (first|exact G.refl _|assumption|refine G.alloc ?_ _|refine G.drew ?_ |refine G.drewN ?_ _|(refine G.trans ?_ (by assumption))))).mono ?_;rintro e wn ⟨rfl,hbn⟩)|(go_at_call 64;refine(ig.out _).mono ?_;rintro e wn ⟨rfl,hbn⟩));go_ret
      first|exact⟨by rw[ed.out];first|done|rfl,(by repeat' (first|exact G.refl _|assumption|refine G.alloc ?_ _|refine G.drew ?_ |refine G.drewN ?_ _|(refine G.trans ?_ (by assumption))))⟩|exact⟨by rw[dZ.out];first|done|rfl,(by repeat' (first|exact G.refl _|assumption|refine G.alloc ?_ _|refine G.drew ?_ |refine G.drewN ?_ _|(refine G.trans ?_ (by assumption))))⟩|exact⟨by rw[dm.out];first|done|rfl,(by repeat' (first|exact G.refl _|assumption|refine G.alloc ?_ _|refine G.drew ?_ |refine G.drewN ?_ _|(refine G.trans ?_ (by assumption))))⟩
    ·rw[if_neg hl0] at hc6;by_cases df:V=T
     ·skip
      rw[if_pos df] at hc6;simp only[Bool.false_eq_true,if_false] at hc6;rw[hc6];obtain⟨nr,hnr⟩:∃ nr,nr=FT.wrd false V:=⟨_,rfl⟩;obtain⟨fr,hfr⟩:∃ fr,fr=FT.wrd false (T+1):=⟨_,rfl⟩;have cO:Hid (FT.wrd false T=nr):=by show _=_;rw[hnr,df]
      have fG:Hid (FT.wrd false (T+1)=fr):=by show _=_;rw[hfr]
      have Ap:(FloatKind.f64.format.order fr 0==some .eq)=false:=by rw[← fG.out,q0l false (by omega)];exact decide_eq_false (by omega)
      have jQ:(FloatKind.f64.format.order nr 0==some .eq)=decide (T=0):=by rw[← cO.out,q0l false (by omega)]
      have dZ:Hid (rdW 3 q=fr):=by show _=_;rw[gW.out,if_pos hl0,fG.out]
      have ed:Hid (rdW 2 q=nr):=by show _=_;rw[eH.out,cO.out]
      have dm:Hid (rdW 4 q=nr):=by show _=_;rw[fM.out,cO.out]
      have fI:Hid (∀ W,Calls Tryz.prog 39 #[.float .f64 nr,.float .f64 FT.infR] W fun e w'=>e= .returned (.float .f64 fr)∧G W w'):=fun W=>by
       have k:=q0X nr W (by rw[hnr];exact FT.wrd_lt false _ (by omega));have e:upV nr=fr:=by rw[← cO.out,q7x (V:=T) (by omega)];exact fG.out
       rw[e] at k;exact k
      rw[← hnr] at bL bI jV ⊢;have bL:Hid (∀ W,_):=fun W=>bL.out dD W;have bI:Hid (∀ W v,G w W→PR W v (FQ nr)→Calls Tryz.prog 65 #[v,u] W fun e w'=>e= .returned (.int .i64 (-1))∧G W w'):=fun W v g h=>by have k:=bI.out dD W v g h;rw[hnr] at k;rw[hc6] at k;exact k
      obtain⟨t0,ht0⟩:∃ t0,t0=decide (T=0):=⟨_,rfl⟩;rw[← ht0] at jQ;have oC:Hid (t0=true→nr=FT.wrd false 0):=fun h=>by rw[h] at ht0;rw[← cO.out,of_decide_eq_true ht0.symm]
      clear lX ht0 hnr hfr df hl0 cK dD hc6 hw1 hw2 hw3 eH gW fM mZ cO fG;go_wp2_with fail;refine q00 (ng.out w6) ?_;rintro e w9 ⟨rfl,g9⟩;go_wp2_with fail;refine q00 (fI.out w9) ?_;rintro e aR ⟨rfl,g10⟩;cases t0
      ·skip
       clear hm1;rcases hm with rfl|rfl|rfl
       all_goals
        go_wp2_with (first|(go_at_call 19;refine(fU.out _ (by repeat' (first|exact G.refl _|assumption|refine G.alloc ?_ _|refine G.drew ?_ |refine G.drewN ?_ _|(refine G.trans ?_ (by assumption))))).mono ?_;rintro e wn ⟨rfl,hbn⟩)|(go_at_call 64;refine(ig.out _).mono ?_;rintro e wn ⟨rfl,hbn⟩));go_ret
        first|exact⟨by rw[ed.out];first|done|rfl,(by repeat' (first|exact G.refl _|assumption|refine G.alloc ?_ _|refine G.drew ?_ |refine G.drewN ?_ _|(refine G.trans ?_ (by assumption))))⟩|exact⟨by rw[dZ.out];first|done|rfl,(by repeat' (first|exact G.refl _|assumption|refine G.alloc ?_ _|refine G.drew ?_ |refine G.drewN ?_ _|(refine G.trans ?_ (by assumption))))⟩|exact⟨by rw[dm.out];first|done|rfl,(by repeat' (first|exact G.refl _|assumption|refine G.alloc ?_ _|refine G.drew ?_ |refine G.drewN ?_ _|(refine G.trans ?_ (by assumption))))⟩
      ·rw[oC.out rfl] at jQ fI ed dm ⊢;clear hm1;rcases hm with rfl|rfl|rfl
       all_goals
        go_wp2_with (first|(go_at_call 19;refine(fU.out _ (by repeat' (first|exact G.refl _|assumption|refine G.alloc ?_ _|refine G.drew ?_ |refine G.drewN ?_ _|(refine G.trans ?_ (by assumption))))).mono ?_;rintro e wn ⟨rfl,hbn⟩)|(go_at_call 64;refine(ig.out _).mono ?_;rintro e wn ⟨rfl,hbn⟩));go_ret
        first|exact⟨by rw[ed.out];first|done|rfl,(by repeat' (first|exact G.refl _|assumption|refine G.alloc ?_ _|refine G.drew ?_ |refine G.drewN ?_ _|(refine G.trans ?_ (by assumption))))⟩|exact⟨by rw[dZ.out];first|done|rfl,(by repeat' (first|exact G.refl _|assumption|refine G.alloc ?_ _|refine G.drew ?_ |refine G.drewN ?_ _|(refine G.trans ?_ (by assumption))))⟩|exact⟨by rw[dm.out];first|done|rfl,(by repeat' (first|exact G.refl _|assumption|refine G.alloc ?_ _|refine G.drew ?_ |refine G.drewN ?_ _|(refine G.trans ?_ (by assumption))))⟩
     ·skip
      rw[if_neg df] at hc6;simp only[Bool.false_eq_true,if_false] at hc6;rw[hc6];have jR:V=T+1:=by rcases hw2 with h|h;exact absurd h df;exact h
      obtain⟨fr,hfr⟩:∃ fr,fr=FT.wrd false V:=⟨_,rfl⟩;obtain⟨nr,hnr⟩:∃ nr,nr=FT.wrd false T:=⟨_,rfl⟩;have cO:Hid (FT.wrd false T=nr):=hnr.symm;have fG:Hid (FT.wrd false (T+1)=fr):=by show _=_;rw[hfr,jR]
      have Ap:(FloatKind.f64.format.order fr 0==some .eq)=false:=by rw[← fG.out,q0l false (by omega)];exact decide_eq_false (by omega)
      have jQ:(FloatKind.f64.format.order nr 0==some .eq)=decide (T=0):=by rw[← cO.out,q0l false (by omega)]
      have dZ:Hid (rdW 3 q=fr):=by show _=_;rw[gW.out,if_pos hl0,fG.out]
      have ed:Hid (rdW 2 q=nr):=by show _=_;rw[eH.out,cO.out]
      have dm:Hid (rdW 4 q=nr):=by show _=_;rw[fM.out,cO.out]
      have fI:Hid (∀ W,Calls Tryz.prog 39 #[.float .f64 fr,.float .f64 FT.ninf] W fun e w'=>e= .returned (.float .f64 nr)∧G W w'):=fun W=>by
       have k:=q15 fr W (by rw[hfr];exact FT.wrd_lt false _ (by omega));have e:q3H fr=nr:=by rw[← fG.out,q68 (V:=T) (by omega)];exact cO.out
       rw[e] at k;exact k
      rw[← hfr] at bL bI jV ⊢;have bL:Hid (∀ W,_):=fun W=>bL.out dD W;have bI:Hid (∀ W v,G w W→PR W v (FQ fr)→Calls Tryz.prog 65 #[v,u] W fun e w'=>e= .returned (.int .i64 1)∧G W w'):=fun W v g h=>by have k:=bI.out dD W v g h;rw[hfr] at k;rw[hc6] at k;exact k
      obtain⟨t0,ht0⟩:∃ t0,t0=decide (T=0):=⟨_,rfl⟩;rw[← ht0] at jQ;have oC:Hid (t0=true→nr=FT.wrd false 0):=fun h=>by rw[h] at ht0;rw[← cO.out,of_decide_eq_true ht0.symm]
      clear jR lX ht0 hnr hfr df hl0 cK dD hc6 hw1 hw2 hw3 eH gW fM mZ cO fG;go_wp2_with fail;refine q00 (bL.out w6) ?_;rintro e w7 ⟨v7,rfl,g7,k7⟩;have dC:Hid (PR w7 v7 (FQ fr)):=k7;clear k7;go_wp2_with fail;refine q00 (bI.out w7 v7 (by repeat' (first|exact G.refl _|assumption|refine G.alloc ?_ _|refine G.drew ?_ |refine G.drewN ?_ _|(refine G.trans ?_ (by assumption)))) dC.out) ?_;rintro e w8 ⟨rfl,g8⟩;go_wp2_with fail;refine q00 (uh.out w8) ?_;rintro e w9 ⟨rfl,g9⟩;go_wp2_with fail;refine q00 (fI.out w9) ?_;rintro e aR ⟨rfl,g10⟩;cases t0
      ·skip
       clear hm1;rcases hm with rfl|rfl|rfl
       all_goals
        go_wp2_with (first|(go_at_call 19;refine(fU.out _ (by repeat' (first|exact G.refl _|assumption|refine G.alloc ?_ _|refine G.drew ?_ |refine G.drewN ?_ _|(refine G.trans ?_ (by assumption))))).mono ?_;rintro e wn ⟨rfl,hbn⟩)|(go_at_call 64;refine(ig.out _).mono ?_;rintro e wn ⟨rfl,hbn⟩));go_ret
        first|exact⟨by rw[ed.out];first|done|rfl,(by repeat' (first|exact G.refl _|assumption|refine G.alloc ?_ _|refine G.drew ?_ |refine G.drewN ?_ _|(refine G.trans ?_ (by assumption))))⟩|exact⟨by rw[dZ.out];first|done|rfl,(by repeat' (first|exact G.refl _|assumption|refine G.alloc ?_ _|refine G.drew ?_ |refine G.drewN ?_ _|(refine G.trans ?_ (by assumption))))⟩|exact⟨by rw[dm.out];first|done|rfl,(by repeat' (first|exact G.refl _|assumption|refine G.alloc ?_ _|refine G.drew ?_ |refine G.drewN ?_ _|(refine G.trans ?_ (by assumption))))⟩
      ·rw[oC.out rfl] at jQ fI ed dm ⊢;clear hm1;rcases hm with rfl|rfl|rfl
       all_goals
        go_wp2_with (first|(go_at_call 19;refine(fU.out _ (by repeat' (first|exact G.refl _|assumption|refine G.alloc ?_ _|refine G.drew ?_ |refine G.drewN ?_ _|(refine G.trans ?_ (by assumption))))).mono ?_;rintro e wn ⟨rfl,hbn⟩)|(go_at_call 64;refine(ig.out _).mono ?_;rintro e wn ⟨rfl,hbn⟩));go_ret
        first|exact⟨by rw[ed.out];first|done|rfl,(by repeat' (first|exact G.refl _|assumption|refine G.alloc ?_ _|refine G.drew ?_ |refine G.drewN ?_ _|(refine G.trans ?_ (by assumption))))⟩|exact⟨by rw[dZ.out];first|done|rfl,(by repeat' (first|exact G.refl _|assumption|refine G.alloc ?_ _|refine G.drew ?_ |refine G.drewN ?_ _|(refine G.trans ?_ (by assumption))))⟩|exact⟨by rw[dm.out];first|done|rfl,(by repeat' (first|exact G.refl _|assumption|refine G.alloc ?_ _|refine G.drew ?_ |refine G.drewN ?_ _|(refine G.trans ?_ (by assumption))))⟩
set_option maxHeartbeats 4000000 in
set_option maxRecDepth 10000 in
/-- Rounding of a fraction below 0. -/
theorem q8C (w:World) (u:Value) (q:Rat) (m:Int) (h0:q.num<0) (hq:QB q 400) (hm:m=1∨m=2∨m=3∨m=4) (hu:PR w u q):
  Calls Tryz.prog 18 #[u,.int .i64 m] w fun e w'=>e= .returned (.float .f64 (rdW m q))∧G w w':=by
 have hs:decide (q.num<0)=true:=decide_eq_true h0;have hq0:q≠0:=by rintro rfl;exact absurd h0 (by decide)
 have hA:q.num.natAbs≠0:=by omega
 obtain⟨T,hT⟩:∃ T,T=tV q.num.natAbs q.den:=⟨_,rfl⟩;obtain⟨l,hl⟩:∃ l,l=lV q.num.natAbs q.den:=⟨_,rfl⟩;obtain⟨V,hV⟩:∃ V,V=rdV 1 true q.num.natAbs q.den:=⟨_,rfl⟩;obtain⟨hw1,hw2,hw3,hw4⟩:=q54 hq0 hs.symm hT hl hV;have mZ:Hid _:=hw4;have HT0:Hid (l=0→T≠0):=fun h e=>by
  have k:=(q1V hA q.den_nz).2.2.1 (by rw[← hl];exact h);rw[← hT,e,show FT.v 0=0 from by decide,Nat.zero_mul] at k;have:=Nat.mul_pos (Nat.pos_of_ne_zero hA) (Nat.two_pow_pos 1074);omega
 have eH:Hid (rdW 2 q=FT.wrd true (if l≠0 then T+1 else T)):=by show _=_;unfold rdW;rw[hs,q5W,← hT,← hl];congr 1;simp
 have gW:Hid (rdW 3 q=FT.wrd true T):=by show _=_;unfold rdW;rw[hs,qbT,← hT,← hl];congr 1;simp
 have fM:Hid (rdW 4 q=FT.wrd true T):=by show _=_;unfold rdW;rw[hs,qc0,← hT]
 have wh:Hid (rdW 1 q=FT.wrd true V):=by show _=_;unfold rdW;rw[hs,hV]
 have lW:V≤2047*2^52:=by rw[hV];exact qbI 1 true hA q.den_nz
 have HF:Hid (∀ W,G w W→Calls Tryz.prog 63 #[u] W (q7D W (FT.wrd true V))):=fun W g=>by
  obtain⟨p,rfl,hp,hr⟩:=hu;have k:=q4V W p q hq0 hq (G.lt g hp) (hr.G hp g);have e:nR q=FT.wrd true V:=by
   show FT.wrd (decide (q.num<0)) (rdV 1 (decide (q.num<0)) q.num.natAbs q.den)=_;rw[hs,hV]
  rw[e] at k;exact k
 have fU:Hid (∀ W,G w W→Calls Tryz.prog 19 #[u] W fun e w'=>e= .returned (.int .i64 (-1))∧G W w'):=fun W g=>by
  have k:=q3s W u q (hu.G g);rw[qbK hq0,hs] at k;exact k
 have ig:Hid (∀ W:World,Calls Tryz.prog 64 #[.float .f64 0,.float .f64 13830554455654793216] W fun e w'=>e= .returned (.float .f64 (FT.wrd true 0))∧G W w'):=fun W=>q69 true W;have hcv:=q8s;have HI1:Hid (∀ W:World,Calls Tryz.prog 42 #[.float .f64 (FT.wrd true V),.int .i64 1] W fun e w'=>e= .returned (.bool false)∧G W w'):=fun W=>q64 true V W lW;have HI2:Hid (∀ W:World,Calls Tryz.prog 42 #[.float .f64 (FT.wrd true V),.int .i64 (-1)] W fun e w'=>e= .returned (.bool (decide (V=2047*2^52)))∧G W w'):=fun W=>q6s true V W lW;have bL:Hid (V<2047*2^52→∀ W,Calls Tryz.prog 10 #[.float .f64 (FT.wrd true V)] W (RetP W (FQ (FT.wrd true V)))):=fun h W=>by
  have hx:=(fq_v true h).2;have h64:=FT.wrd_lt true V (by omega);rw[q5x h64 hx];exact q41 W _ h64 hx
 have bI:Hid (V<2047*2^52→∀ W v,G w W→PR W v (FQ (FT.wrd true V))→_):=fun h W v g hv=>q3m W v u _ q 400 (by omega) ((qbg (fq_v true h).2).mono (by omega)) hq hv (hu.G g);have uh:Hid (∀ W:World,Calls Tryz.prog 66 #[.int .i64 (-1)] W fun e w'=>e= .returned (.float .f64 FT.ninf)∧G W w'):=fun W=>q9M W;have ng:Hid (∀ W:World,Calls Tryz.prog 66 #[.int .i64 1] W fun e w'=>e= .returned (.float .f64 FT.infR)∧G W w'):=fun W=>q92 1 W (by omega);have fI:Hid True:=trivial;have lX:True:=trivial;have hzn:=q0l true (V:=V) (by omega);clear hT hl hV hs hA hq0 hw4 hq h0;go_enter Tryz.func18,Tryz.ntmps18;go_wp2_with fail;refine q00 (HF.out w (G.refl _)) ?_;rintro e wa ⟨xx,rfl,ga⟩;go_wp2_with fail;refine q00 (fU.out wa ga) ?_;rintro e wb ⟨rfl,gb⟩;by_cases o9:V=0
 ·skip
  rw[decide_eq_true o9] at hzn;have qJ:Hid (V=0):=o9;clear o9;go_wp2_with fail;refine q00 (fU.out wb (by repeat' (first|exact G.refl _|assumption|refine G.alloc ?_ _|refine G.drew ?_ |refine G.drewN ?_ _|(refine G.trans ?_ (by assumption))))) ?_;rintro e wc ⟨rfl,gc⟩;go_wp2_with fail;have uu:Hid (∀ W:World,Calls Tryz.prog 64 #[.float .f64 0,.float .f64 13830554455654793216] W fun e w'=>e= .returned (.float .f64 (FT.wrd true V))∧G W w'):=fun W=>by rw[qJ.out];exact ig.out W
  refine q00 (uu.out wc) ?_;rintro e w2 ⟨rfl,gd⟩;have g2:G w w2:=(by repeat' (first|exact G.refl _|assumption|refine G.alloc ?_ _|refine G.drew ?_ |refine G.drewN ?_ _|(refine G.trans ?_ (by assumption))));clear ga gb gc gd uu;clear HF;rcases hm with rfl|hm
  ·go_wp2_with fail;go_ret;exact⟨by rw[wh.out];first|done|rfl,g2⟩
  ·have hm1:(m==1)=false:=by simp;omega
   clear hzn qJ wh lW;go_wp2_with fail;refine q00 (HI1.out w2) ?_;rintro e w3 ⟨rfl,g3⟩;by_cases cK:V=2047*2^52
   ·obtain⟨lo,hlo⟩:∃ lo,lo=FT.wrd true V:=⟨_,rfl⟩;have oz:T+1=V:=by rcases hw2 with h|h<;>omega
    have hl0:l≠0:=hw3 oz.symm;have HZ1:(FloatKind.f64.format.order 18442240474082181119 0==some .eq)=false:=by decide+kernel
    have HZ2:(FloatKind.f64.format.order lo 0==some .eq)=false:=by rw[hlo,q0l true (by omega)];exact decide_eq_false (by omega)
    have HT1:Hid (FT.wrd true T=18442240474082181119):=by show _=_;rw[show T=2047*2^52-1 from by omega];rfl
    have ed:Hid (rdW 2 q=lo):=by show _=_;rw[eH.out,if_pos hl0,oz,hlo]
    have dZ:Hid (rdW 3 q=18442240474082181119):=by show _=_;rw[gW.out,HT1.out]
    have dm:Hid (rdW 4 q=18442240474082181119):=by show _=_;rw[fM.out,HT1.out]
    rw[decide_eq_true cK] at HI2;rw[← hlo] at HI2 ⊢;clear hlo oz hl0 cK HT1 hw1 hw2 hw3 bL bI fI eH gW fM;go_wp2_with fail;refine q00 (HI2.out w3) ?_;rintro e w4 ⟨rfl,g4⟩;clear hm1;rcases hm with rfl|rfl|rfl
    all_goals
     go_wp2_with (first|(go_at_call 19;refine(fU.out _ (by repeat' (first|exact G.refl _|assumption|refine G.alloc ?_ _|refine G.drew ?_ |refine G.drewN ?_ _|(refine G.trans ?_ (by assumption))))).mono ?_;rintro e wn ⟨rfl,hbn⟩)|(go_at_call 64;refine(ig.out _).mono ?_;rintro e wn ⟨rfl,hbn⟩));go_ret
     first|exact⟨by rw[ed.out];first|done|rfl,(by repeat' (first|exact G.refl _|assumption|refine G.alloc ?_ _|refine G.drew ?_ |refine G.drewN ?_ _|(refine G.trans ?_ (by assumption))))⟩|exact⟨by rw[dZ.out];first|done|rfl,(by repeat' (first|exact G.refl _|assumption|refine G.alloc ?_ _|refine G.drew ?_ |refine G.drewN ?_ _|(refine G.trans ?_ (by assumption))))⟩|exact⟨by rw[dm.out];first|done|rfl,(by repeat' (first|exact G.refl _|assumption|refine G.alloc ?_ _|refine G.drew ?_ |refine G.drewN ?_ _|(refine G.trans ?_ (by assumption))))⟩
   ·have dD:V<2047*2^52:=by omega
    rw[decide_eq_false cK] at HI2;go_wp2_with fail;refine q00 (HI2.out w3) ?_;rintro e w4 ⟨rfl,g4⟩;go_wp2_with fail;refine q00 (bL.out dD w4) ?_;rintro e w5 ⟨v5,rfl,g5,k5⟩;have jV:Hid (PR w5 v5 (FQ (FT.wrd true V))):=k5;clear k5;go_wp2_with fail;refine q00 (bI.out dD w5 v5 (by repeat' (first|exact G.refl _|assumption|refine G.alloc ?_ _|refine G.drew ?_ |refine G.drewN ?_ _|(refine G.trans ?_ (by assumption)))) jV.out) ?_;rintro e w6 ⟨rfl,g6⟩;have hc6:=(mZ.out dD);by_cases hl0:l=0
    ·have df:V=T:=by rcases hw2 with h|h;exact h;exact absurd hl0 (hw3 h)
     rw[if_pos hl0] at hc6;rw[hc6];obtain⟨lo,hlo⟩:∃ lo,lo=FT.wrd true V:=⟨_,rfl⟩;have hT0:V≠0:=by rw[df];exact HT0.out hl0
     have HZ1:(FloatKind.f64.format.order lo 0==some .eq)=false:=by rw[hlo,q0l true (by omega)];exact decide_eq_false hT0
     have ed:Hid (rdW 2 q=lo):=by show _=_;rw[eH.out,if_neg (by simpa using hl0),← df,hlo]
     have dZ:Hid (rdW 3 q=lo):=by show _=_;rw[gW.out,← df,hlo]
     have dm:Hid (rdW 4 q=lo):=by show _=_;rw[fM.out,← df,hlo]
     rw[← hlo] at bL bI jV ⊢;have bL:Hid (∀ W,_):=fun W=>bL.out dD W;have bI:Hid (∀ W v,G w W→PR W v (FQ lo)→Calls Tryz.prog 65 #[v,u] W fun e w'=>e= .returned (.int .i64 0)∧G W w'):=fun W v g h=>by have k:=bI.out dD W v g h;rw[hlo] at k;rw[hc6] at k;exact k
     clear hlo df hl0 hT0 cK dD hc6 hw1 hw2 hw3 fI eH gW fM mZ;go_wp2_with fail;refine q00 (bL.out w6) ?_;rintro e w7 ⟨v7,rfl,g7,k7⟩;have dC:Hid (PR w7 v7 (FQ lo)):=k7;clear k7;go_wp2_with fail;refine q00 (bI.out w7 v7 (by repeat' (first|exact G.refl _|assumption|refine G.alloc ?_ _|refine G.drew ?_ |refine G.drewN ?_ _|(refine G.trans ?_ (by assumption)))) dC.out) ?_;rintro e w8 ⟨rfl,g8⟩;clear hm1;rcases hm with rfl|rfl|rfl
     all_goals
      go_wp2_with (first|(go_at_call 19;refine(fU.out _ (by repeat' (first|exact G.refl _|assumption|refine G.alloc ?_ _|refine G.drew ?_ |refine G.drewN ?_ _|(refine G.trans ?_ (by assumption))))).mono ?_;rintro e wn ⟨rfl,hbn⟩)|(go_at_call 64;refine(ig.out _).mono ?_;rintro e wn ⟨rfl,hbn⟩));go_ret
      first|exact⟨by rw[ed.out];first|done|rfl,(by repeat' (first|exact G.refl _|assumption|refine G.alloc ?_ _|refine G.drew ?_ |refine G.drewN ?_ _|(refine G.trans ?_ (by assumption))))⟩|exact⟨by rw[dZ.out];first|done|rfl,(by repeat' (first|exact G.refl _|assumption|refine G.alloc ?_ _|refine G.drew ?_ |refine G.drewN ?_ _|(refine G.trans ?_ (by assumption))))⟩|exact⟨by rw[dm.out];first|done|rfl,(by repeat' (first|exact G.refl _|assumption|refine G.alloc ?_ _|refine G.drew ?_ |refine G.drewN ?_ _|(refine G.trans ?_ (by assumption))))⟩
    ·rw[if_neg hl0] at hc6;by_cases df:V=T
     ·skip
      rw[if_pos df] at hc6;simp only[if_true] at hc6;rw[hc6];obtain⟨nr,hnr⟩:∃ nr,nr=FT.wrd true V:=⟨_,rfl⟩;obtain⟨fr,hfr⟩:∃ fr,fr=FT.wrd true (T+1):=⟨_,rfl⟩;have cO:Hid (FT.wrd true T=nr):=by show _=_;rw[hnr,df]
      have fG:Hid (FT.wrd true (T+1)=fr):=by show _=_;rw[hfr]
      have Ap:(FloatKind.f64.format.order fr 0==some .eq)=false:=by rw[← fG.out,q0l true (by omega)];exact decide_eq_false (by omega)
      have jQ:(FloatKind.f64.format.order nr 0==some .eq)=decide (T=0):=by rw[← cO.out,q0l true (by omega)]
      have ed:Hid (rdW 2 q=fr):=by show _=_;rw[eH.out,if_pos hl0,fG.out]
      have dZ:Hid (rdW 3 q=nr):=by show _=_;rw[gW.out,cO.out]
      have dm:Hid (rdW 4 q=nr):=by show _=_;rw[fM.out,cO.out]
      have fI:Hid (∀ W,Calls Tryz.prog 39 #[.float .f64 nr,.float .f64 FT.ninf] W fun e w'=>e= .returned (.float .f64 fr)∧G W w'):=fun W=>by
       have k:=q15 nr W (by rw[hnr];exact FT.wrd_lt true _ (by omega));have e:q3H nr=fr:=by rw[← cO.out,q6r (V:=T) (by omega)];exact fG.out
       rw[e] at k;exact k
      rw[← hnr] at bL bI jV ⊢;have bL:Hid (∀ W,_):=fun W=>bL.out dD W;have bI:Hid (∀ W v,G w W→PR W v (FQ nr)→Calls Tryz.prog 65 #[v,u] W fun e w'=>e= .returned (.int .i64 1)∧G W w'):=fun W v g h=>by have k:=bI.out dD W v g h;rw[hnr] at k;rw[hc6] at k;exact k
      obtain⟨t0,ht0⟩:∃ t0,t0=decide (T=0):=⟨_,rfl⟩;rw[← ht0] at jQ;have oC:Hid (t0=true→nr=FT.wrd true 0):=fun h=>by rw[h] at ht0;rw[← cO.out,of_decide_eq_true ht0.symm]
      clear lX ht0 hnr hfr df hl0 cK dD hc6 hw1 hw2 hw3 eH gW fM mZ cO fG;go_wp2_with fail;refine q00 (bL.out w6) ?_;rintro e w7 ⟨v7,rfl,g7,k7⟩;have dC:Hid (PR w7 v7 (FQ nr)):=k7;clear k7;go_wp2_with fail;refine q00 (bI.out w7 v7 (by repeat' (first|exact G.refl _|assumption|refine G.alloc ?_ _|refine G.drew ?_ |refine G.drewN ?_ _|(refine G.trans ?_ (by assumption)))) dC.out) ?_;rintro e w8 ⟨rfl,g8⟩;go_wp2_with fail;refine q00 (uh.out w8) ?_;rintro e w9 ⟨rfl,g9⟩;go_wp2_with fail;refine q00 (fI.out w9) ?_;rintro e aR ⟨rfl,g10⟩;cases t0
      ·skip
       clear hm1;rcases hm with rfl|rfl|rfl
       all_goals
        go_wp2_with (first|(go_at_call 19;refine(fU.out _ (by repeat' (first|exact G.refl _|assumption|refine G.alloc ?_ _|refine G.drew ?_ |refine G.drewN ?_ _|(refine G.trans ?_ (by assumption))))).mono ?_;rintro e wn ⟨rfl,hbn⟩)|(go_at_call 64;refine(ig.out _).mono ?_;rintro e wn ⟨rfl,hbn⟩));go_ret
        first|exact⟨by rw[ed.out];first|done|rfl,(by repeat' (first|exact G.refl _|assumption|refine G.alloc ?_ _|refine G.drew ?_ |refine G.drewN ?_ _|(refine G.trans ?_ (by assumption))))⟩|exact⟨by rw[dZ.out];first|done|rfl,(by repeat' (first|exact G.refl _|assumption|refine G.alloc ?_ _|refine G.drew ?_ |refine G.drewN ?_ _|(refine G.trans ?_ (by assumption))))⟩|exact⟨by rw[dm.out];first|done|rfl,(by repeat' (first|exact G.refl _|assumption|refine G.alloc ?_ _|refine G.drew ?_ |refine G.drewN ?_ _|(refine G.trans ?_ (by assumption))))⟩
      ·rw[oC.out rfl] at jQ fI dZ dm ⊢;clear hm1;rcases hm with rfl|rfl|rfl
       all_goals
        go_wp2_with (first|(go_at_call 19;refine(fU.out _ (by repeat' (first|exact G.refl _|assumption|refine G.alloc ?_ _|refine G.drew ?_ |refine G.drewN ?_ _|(refine G.trans ?_ (by assumption))))).mono ?_;rintro e wn ⟨rfl,hbn⟩)|(go_at_call 64;refine(ig.out _).mono ?_;rintro e wn ⟨rfl,hbn⟩));go_ret
        first|exact⟨by rw[ed.out];first|done|rfl,(by repeat' (first|exact G.refl _|assumption|refine G.alloc ?_ _|refine G.drew ?_ |refine G.drewN ?_ _|(refine G.trans ?_ (by assumption))))⟩|exact⟨by rw[dZ.out];first|done|rfl,(by repeat' (first|exact G.refl _|assumption|refine G.alloc ?_ _|refine G.drew ?_ |refine G.drewN ?_ _|(refine G.trans ?_ (by assumption))))⟩|exact⟨by rw[dm.out];first|done|rfl,(by repeat' (first|exact G.refl _|assumption|refine G.alloc ?_ _|refine G.drew ?_ |refine G.drewN ?_ _|(refine G.trans ?_ (by assumption))))⟩
     ·skip
      rw[if_neg df] at hc6;simp only[if_true] at hc6;rw[hc6];have jR:V=T+1:=by rcases hw2 with h|h;exact absurd h df;exact h
      obtain⟨fr,hfr⟩:∃ fr,fr=FT.wrd true V:=⟨_,rfl⟩;obtain⟨nr,hnr⟩:∃ nr,nr=FT.wrd true T:=⟨_,rfl⟩;have cO:Hid (FT.wrd true T=nr):=hnr.symm;have fG:Hid (FT.wrd true (T+1)=fr):=by show _=_;rw[hfr,jR]
      have Ap:(FloatKind.f64.format.order fr 0==some .eq)=false:=by rw[← fG.out,q0l true (by omega)];exact decide_eq_false (by omega)
      have jQ:(FloatKind.f64.format.order nr 0==some .eq)=decide (T=0):=by rw[← cO.out,q0l true (by omega)]
      have ed:Hid (rdW 2 q=fr):=by show _=_;rw[eH.out,if_pos hl0,fG.out]
      have dZ:Hid (rdW 3 q=nr):=by show _=_;rw[gW.out,cO.out]
      have dm:Hid (rdW 4 q=nr):=by show _=_;rw[fM.out,cO.out]
      have fI:Hid (∀ W,Calls Tryz.prog 39 #[.float .f64 fr,.float .f64 FT.infR] W fun e w'=>e= .returned (.float .f64 nr)∧G W w'):=fun W=>by
       have k:=q0X fr W (by rw[hfr];exact FT.wrd_lt true _ (by omega));have e:upV fr=nr:=by rw[← fG.out,q9H (V:=T) (by omega)];exact cO.out
       rw[e] at k;exact k
      rw[← hfr] at bL bI jV ⊢;have bL:Hid (∀ W,_):=fun W=>bL.out dD W;have bI:Hid (∀ W v,G w W→PR W v (FQ fr)→Calls Tryz.prog 65 #[v,u] W fun e w'=>e= .returned (.int .i64 (-1))∧G W w'):=fun W v g h=>by have k:=bI.out dD W v g h;rw[hfr] at k;rw[hc6] at k;exact k
      obtain⟨t0,ht0⟩:∃ t0,t0=decide (T=0):=⟨_,rfl⟩;rw[← ht0] at jQ;have oC:Hid (t0=true→nr=FT.wrd true 0):=fun h=>by rw[h] at ht0;rw[← cO.out,of_decide_eq_true ht0.symm]
      clear jR lX ht0 hnr hfr df hl0 cK dD hc6 hw1 hw2 hw3 eH gW fM mZ cO fG;go_wp2_with fail;refine q00 (ng.out w6) ?_;rintro e w9 ⟨rfl,g9⟩;go_wp2_with fail;refine q00 (fI.out w9) ?_;rintro e aR ⟨rfl,g10⟩;cases t0
      ·skip
       clear hm1;rcases hm with rfl|rfl|rfl
       all_goals
        go_wp2_with (first|(go_at_call 19;refine(fU.out _ (by repeat' (first|exact G.refl _|assumption|refine G.alloc ?_ _|refine G.drew ?_ |refine G.drewN ?_ _|(refine G.trans ?_ (by assumption))))).mono ?_;rintro e wn ⟨rfl,hbn⟩)|(go_at_call 64;refine(ig.out _).mono ?_;rintro e wn ⟨rfl,hbn⟩));go_ret
        first|exact⟨by rw[ed.out];first|done|rfl,(by repeat' (first|exact G.refl _|assumption|refine G.alloc ?_ _|refine G.drew ?_ |refine G.drewN ?_ _|(refine G.trans ?_ (by assumption))))⟩|exact⟨by rw[dZ.out];first|done|rfl,(by repeat' (first|exact G.refl _|assumption|refine G.alloc ?_ _|refine G.drew ?_ |refine G.drewN ?_ _|(refine G.trans ?_ (by assumption))))⟩|exact⟨by rw[dm.out];first|done|rfl,(by repeat' (first|exact G.refl _|assumption|refine G.alloc ?_ _|refine G.drew ?_ |refine G.drewN ?_ _|(refine G.trans ?_ (by assumption))))⟩
      ·rw[oC.out rfl] at jQ fI dZ dm ⊢;clear hm1;rcases hm with rfl|rfl|rfl
       all_goals
        go_wp2_with (first|(go_at_call 19;refine(fU.out _ (by repeat' (first|exact G.refl _|assumption|refine G.alloc ?_ _|refine G.drew ?_ |refine G.drewN ?_ _|(refine G.trans ?_ (by assumption))))).mono ?_;rintro e wn ⟨rfl,hbn⟩)|(go_at_call 64;refine(ig.out _).mono ?_;rintro e wn ⟨rfl,hbn⟩));go_ret
        first|exact⟨by rw[ed.out];first|done|rfl,(by repeat' (first|exact G.refl _|assumption|refine G.alloc ?_ _|refine G.drew ?_ |refine G.drewN ?_ _|(refine G.trans ?_ (by assumption))))⟩|exact⟨by rw[dZ.out];first|done|rfl,(by repeat' (first|exact G.refl _|assumption|refine G.alloc ?_ _|refine G.drew ?_ |refine G.drewN ?_ _|(refine G.trans ?_ (by assumption))))⟩|exact⟨by rw[dm.out];first|done|rfl,(by repeat' (first|exact G.refl _|assumption|refine G.alloc ?_ _|refine G.drew ?_ |refine G.drewN ?_ _|(refine G.trans ?_ (by assumption))))⟩
 ·skip
  rw[decide_eq_false o9] at hzn;have qJ:Hid (V≠0):=o9;clear o9
  skip
  obtain⟨w2,oD⟩:∃ w2,w2=wb:=⟨_,rfl⟩;rw[← oD];have g2:G w w2:=by rw[oD];exact G.trans ga gb
  clear ga gb oD;clear HF;rcases hm with rfl|hm
  ·go_wp2_with fail;go_ret;exact⟨by rw[wh.out];first|done|rfl,g2⟩
  ·have hm1:(m==1)=false:=by simp;omega
   clear qJ wh lW;go_wp2_with fail;refine q00 (HI1.out w2) ?_;rintro e w3 ⟨rfl,g3⟩;by_cases cK:V=2047*2^52
   ·obtain⟨lo,hlo⟩:∃ lo,lo=FT.wrd true V:=⟨_,rfl⟩;have oz:T+1=V:=by rcases hw2 with h|h<;>omega
    have hl0:l≠0:=hw3 oz.symm;have HZ1:(FloatKind.f64.format.order 18442240474082181119 0==some .eq)=false:=by decide+kernel
    have HZ2:(FloatKind.f64.format.order lo 0==some .eq)=false:=by rw[hlo,q0l true (by omega)];exact decide_eq_false (by omega)
    have HT1:Hid (FT.wrd true T=18442240474082181119):=by show _=_;rw[show T=2047*2^52-1 from by omega];rfl
    have ed:Hid (rdW 2 q=lo):=by show _=_;rw[eH.out,if_pos hl0,oz,hlo]
    have dZ:Hid (rdW 3 q=18442240474082181119):=by show _=_;rw[gW.out,HT1.out]
    have dm:Hid (rdW 4 q=18442240474082181119):=by show _=_;rw[fM.out,HT1.out]
    rw[decide_eq_true cK] at HI2;rw[← hlo] at HI2 ⊢;clear hlo oz hl0 cK HT1 hw1 hw2 hw3 bL bI fI eH gW fM;go_wp2_with fail;refine q00 (HI2.out w3) ?_;rintro e w4 ⟨rfl,g4⟩;clear hm1;rcases hm with rfl|rfl|rfl
    all_goals
     go_wp2_with (first|(go_at_call 19;refine(fU.out _ (by repeat' (first|exact G.refl _|assumption|refine G.alloc ?_ _|refine G.drew ?_ |refine G.drewN ?_ _|(refine G.trans ?_ (by assumption))))).mono ?_;rintro e wn ⟨rfl,hbn⟩)|(go_at_call 64;refine(ig.out _).mono ?_;rintro e wn ⟨rfl,hbn⟩));go_ret
     first|exact⟨by rw[ed.out];first|done|rfl,(by repeat' (first|exact G.refl _|assumption|refine G.alloc ?_ _|refine G.drew ?_ |refine G.drewN ?_ _|(refine G.trans ?_ (by assumption))))⟩|exact⟨by rw[dZ.out];first|done|rfl,(by repeat' (first|exact G.refl _|assumption|refine G.alloc ?_ _|refine G.drew ?_ |refine G.drewN ?_ _|(refine G.trans ?_ (by assumption))))⟩|exact⟨by rw[dm.out];first|done|rfl,(by repeat' (first|exact G.refl _|assumption|refine G.alloc ?_ _|refine G.drew ?_ |refine G.drewN ?_ _|(refine G.trans ?_ (by assumption))))⟩
   ·have dD:V<2047*2^52:=by omega
    rw[decide_eq_false cK] at HI2;go_wp2_with fail;refine q00 (HI2.out w3) ?_;rintro e w4 ⟨rfl,g4⟩;go_wp2_with fail;refine q00 (bL.out dD w4) ?_;rintro e w5 ⟨v5,rfl,g5,k5⟩;have jV:Hid (PR w5 v5 (FQ (FT.wrd true V))):=k5;clear k5;go_wp2_with fail;refine q00 (bI.out dD w5 v5 (by repeat' (first|exact G.refl _|assumption|refine G.alloc ?_ _|refine G.drew ?_ |refine G.drewN ?_ _|(refine G.trans ?_ (by assumption)))) jV.out) ?_;rintro e w6 ⟨rfl,g6⟩;have hc6:=(mZ.out dD);by_cases hl0:l=0
    ·have df:V=T:=by rcases hw2 with h|h;exact h;exact absurd hl0 (hw3 h)
     rw[if_pos hl0] at hc6;rw[hc6];obtain⟨lo,hlo⟩:∃ lo,lo=FT.wrd true V:=⟨_,rfl⟩;have hT0:V≠0:=by rw[df];exact HT0.out hl0
     have HZ1:(FloatKind.f64.format.order lo 0==some .eq)=false:=by rw[hlo,q0l true (by omega)];exact decide_eq_false hT0
     have ed:Hid (rdW 2 q=lo):=by show _=_;rw[eH.out,if_neg (by simpa using hl0),← df,hlo]
     have dZ:Hid (rdW 3 q=lo):=by show _=_;rw[gW.out,← df,hlo]
     have dm:Hid (rdW 4 q=lo):=by show _=_;rw[fM.out,← df,hlo]
     rw[← hlo] at bL bI jV ⊢;have bL:Hid (∀ W,_):=fun W=>bL.out dD W;have bI:Hid (∀ W v,G w W→PR W v (FQ lo)→Calls Tryz.prog 65 #[v,u] W fun e w'=>e= .returned (.int .i64 0)∧G W w'):=fun W v g h=>by have k:=bI.out dD W v g h;rw[hlo] at k;rw[hc6] at k;exact k
     clear hlo df hl0 hT0 cK dD hc6 hw1 hw2 hw3 fI eH gW fM mZ;go_wp2_with fail;refine q00 (bL.out w6) ?_;rintro e w7 ⟨v7,rfl,g7,k7⟩;have dC:Hid (PR w7 v7 (FQ lo)):=k7;clear k7;go_wp2_with fail;refine q00 (bI.out w7 v7 (by repeat' (first|exact G.refl _|assumption|refine G.alloc ?_ _|refine G.drew ?_ |refine G.drewN ?_ _|(refine G.trans ?_ (by assumption)))) dC.out) ?_;rintro e w8 ⟨rfl,g8⟩;clear hm1;rcases hm with rfl|rfl|rfl
     all_goals
      go_wp2_with (first|(go_at_call 19;refine(fU.out _ (by repeat' (first|exact G.refl _|assumption|refine G.alloc ?_ _|refine G.drew ?_ |refine G.drewN ?_ _|(refine G.trans ?_ (by assumption))))).mono ?_;rintro e wn ⟨rfl,hbn⟩)|(go_at_call 64;refine(ig.out _).mono ?_;rintro e wn ⟨rfl,hbn⟩));go_ret
      first|exact⟨by rw[ed.out];first|done|rfl,(by repeat' (first|exact G.refl _|assumption|refine G.alloc ?_ _|refine G.drew ?_ |refine G.drewN ?_ _|(refine G.trans ?_ (by assumption))))⟩|exact⟨by rw[dZ.out];first|done|rfl,(by repeat' (first|exact G.refl _|assumption|refine G.alloc ?_ _|refine G.drew ?_ |refine G.drewN ?_ _|(refine G.trans ?_ (by assumption))))⟩|exact⟨by rw[dm.out];first|done|rfl,(by repeat' (first|exact G.refl _|assumption|refine G.alloc ?_ _|refine G.drew ?_ |refine G.drewN ?_ _|(refine G.trans ?_ (by assumption))))⟩
    ·rw[if_neg hl0] at hc6;by_cases df:V=T
     ·skip
      rw[if_pos df] at hc6;simp only[if_true] at hc6;rw[hc6];obtain⟨nr,hnr⟩:∃ nr,nr=FT.wrd true V:=⟨_,rfl⟩;obtain⟨fr,hfr⟩:∃ fr,fr=FT.wrd true (T+1):=⟨_,rfl⟩;have cO:Hid (FT.wrd true T=nr):=by show _=_;rw[hnr,df]
      have fG:Hid (FT.wrd true (T+1)=fr):=by show _=_;rw[hfr]
      have Ap:(FloatKind.f64.format.order fr 0==some .eq)=false:=by rw[← fG.out,q0l true (by omega)];exact decide_eq_false (by omega)
      have jQ:(FloatKind.f64.format.order nr 0==some .eq)=decide (T=0):=by rw[← cO.out,q0l true (by omega)]
      have ed:Hid (rdW 2 q=fr):=by show _=_;rw[eH.out,if_pos hl0,fG.out]
      have dZ:Hid (rdW 3 q=nr):=by show _=_;rw[gW.out,cO.out]
      have dm:Hid (rdW 4 q=nr):=by show _=_;rw[fM.out,cO.out]
      have fI:Hid (∀ W,Calls Tryz.prog 39 #[.float .f64 nr,.float .f64 FT.ninf] W fun e w'=>e= .returned (.float .f64 fr)∧G W w'):=fun W=>by
       have k:=q15 nr W (by rw[hnr];exact FT.wrd_lt true _ (by omega));have e:q3H nr=fr:=by rw[← cO.out,q6r (V:=T) (by omega)];exact fG.out
       rw[e] at k;exact k
      rw[← hnr] at bL bI jV ⊢;have bL:Hid (∀ W,_):=fun W=>bL.out dD W;have bI:Hid (∀ W v,G w W→PR W v (FQ nr)→Calls Tryz.prog 65 #[v,u] W fun e w'=>e= .returned (.int .i64 1)∧G W w'):=fun W v g h=>by have k:=bI.out dD W v g h;rw[hnr] at k;rw[hc6] at k;exact k
      obtain⟨t0,ht0⟩:∃ t0,t0=decide (T=0):=⟨_,rfl⟩;rw[← ht0] at jQ;have oC:Hid (t0=true→nr=FT.wrd true 0):=fun h=>by rw[h] at ht0;rw[← cO.out,of_decide_eq_true ht0.symm]
      clear lX ht0 hnr hfr df hl0 cK dD hc6 hw1 hw2 hw3 eH gW fM mZ cO fG;go_wp2_with fail;refine q00 (bL.out w6) ?_;rintro e w7 ⟨v7,rfl,g7,k7⟩;have dC:Hid (PR w7 v7 (FQ nr)):=k7;clear k7;go_wp2_with fail;refine q00 (bI.out w7 v7 (by repeat' (first|exact G.refl _|assumption|refine G.alloc ?_ _|refine G.drew ?_ |refine G.drewN ?_ _|(refine G.trans ?_ (by assumption)))) dC.out) ?_;rintro e w8 ⟨rfl,g8⟩;go_wp2_with fail;refine q00 (uh.out w8) ?_;rintro e w9 ⟨rfl,g9⟩;go_wp2_with fail;refine q00 (fI.out w9) ?_;rintro e aR ⟨rfl,g10⟩;cases t0
      ·skip
       clear hm1;rcases hm with rfl|rfl|rfl
       all_goals
        go_wp2_with (first|(go_at_call 19;refine(fU.out _ (by repeat' (first|exact G.refl _|assumption|refine G.alloc ?_ _|refine G.drew ?_ |refine G.drewN ?_ _|(refine G.trans ?_ (by assumption))))).mono ?_;rintro e wn ⟨rfl,hbn⟩)|(go_at_call 64;refine(ig.out _).mono ?_;rintro e wn ⟨rfl,hbn⟩));go_ret
        first|exact⟨by rw[ed.out];first|done|rfl,(by repeat' (first|exact G.refl _|assumption|refine G.alloc ?_ _|refine G.drew ?_ |refine G.drewN ?_ _|(refine G.trans ?_ (by assumption))))⟩|exact⟨by rw[dZ.out];first|done|rfl,(by repeat' (first|exact G.refl _|assumption|refine G.alloc ?_ _|refine G.drew ?_ |refine G.drewN ?_ _|(refine G.trans ?_ (by assumption))))⟩|exact⟨by rw[dm.out];first|done|rfl,(by repeat' (first|exact G.refl _|assumption|refine G.alloc ?_ _|refine G.drew ?_ |refine G.drewN ?_ _|(refine G.trans ?_ (by assumption))))⟩
      ·rw[oC.out rfl] at jQ fI dZ dm ⊢;clear hm1;rcases hm with rfl|rfl|rfl
       all_goals
        go_wp2_with (first|(go_at_call 19;refine(fU.out _ (by repeat' (first|exact G.refl _|assumption|refine G.alloc ?_ _|refine G.drew ?_ |refine G.drewN ?_ _|(refine G.trans ?_ (by assumption))))).mono ?_;rintro e wn ⟨rfl,hbn⟩)|(go_at_call 64;refine(ig.out _).mono ?_;rintro e wn ⟨rfl,hbn⟩));go_ret
        first|exact⟨by rw[ed.out];first|done|rfl,(by repeat' (first|exact G.refl _|assumption|refine G.alloc ?_ _|refine G.drew ?_ |refine G.drewN ?_ _|(refine G.trans ?_ (by assumption))))⟩|exact⟨by rw[dZ.out];first|done|rfl,(by repeat' (first|exact G.refl _|assumption|refine G.alloc ?_ _|refine G.drew ?_ |refine G.drewN ?_ _|(refine G.trans ?_ (by assumption))))⟩|exact⟨by rw[dm.out];first|done|rfl,(by repeat' (first|exact G.refl _|assumption|refine G.alloc ?_ _|refine G.drew ?_ |refine G.drewN ?_ _|(refine G.trans ?_ (by assumption))))⟩
     ·skip
      rw[if_neg df] at hc6;simp only[if_true] at hc6;rw[hc6];have jR:V=T+1:=by rcases hw2 with h|h;exact absurd h df;exact h
      obtain⟨fr,hfr⟩:∃ fr,fr=FT.wrd true V:=⟨_,rfl⟩;obtain⟨nr,hnr⟩:∃ nr,nr=FT.wrd true T:=⟨_,rfl⟩;have cO:Hid (FT.wrd true T=nr):=hnr.symm;have fG:Hid (FT.wrd true (T+1)=fr):=by show _=_;rw[hfr,jR]
      have Ap:(FloatKind.f64.format.order fr 0==some .eq)=false:=by rw[← fG.out,q0l true (by omega)];exact decide_eq_false (by omega)
      have jQ:(FloatKind.f64.format.order nr 0==some .eq)=decide (T=0):=by rw[← cO.out,q0l true (by omega)]
      have ed:Hid (rdW 2 q=fr):=by show _=_;rw[eH.out,if_pos hl0,fG.out]
      have dZ:Hid (rdW 3 q=nr):=by show _=_;rw[gW.out,cO.out]
      have dm:Hid (rdW 4 q=nr):=by show _=_;rw[fM.out,cO.out]
      have fI:Hid (∀ W,Calls Tryz.prog 39 #[.float .f64 fr,.float .f64 FT.infR] W fun e w'=>e= .returned (.float .f64 nr)∧G W w'):=fun W=>by
       have k:=q0X fr W (by rw[hfr];exact FT.wrd_lt true _ (by omega));have e:upV fr=nr:=by rw[← fG.out,q9H (V:=T) (by omega)];exact cO.out
       rw[e] at k;exact k
      rw[← hfr] at bL bI jV ⊢;have bL:Hid (∀ W,_):=fun W=>bL.out dD W;have bI:Hid (∀ W v,G w W→PR W v (FQ fr)→Calls Tryz.prog 65 #[v,u] W fun e w'=>e= .returned (.int .i64 (-1))∧G W w'):=fun W v g h=>by have k:=bI.out dD W v g h;rw[hfr] at k;rw[hc6] at k;exact k
      obtain⟨t0,ht0⟩:∃ t0,t0=decide (T=0):=⟨_,rfl⟩;rw[← ht0] at jQ;have oC:Hid (t0=true→nr=FT.wrd true 0):=fun h=>by rw[h] at ht0;rw[← cO.out,of_decide_eq_true ht0.symm]
      clear jR lX ht0 hnr hfr df hl0 cK dD hc6 hw1 hw2 hw3 eH gW fM mZ cO fG;go_wp2_with fail;refine q00 (ng.out w6) ?_;rintro e w9 ⟨rfl,g9⟩;go_wp2_with fail;refine q00 (fI.out w9) ?_;rintro e aR ⟨rfl,g10⟩;cases t0
      ·skip
       clear hm1;rcases hm with rfl|rfl|rfl
       all_goals
        go_wp2_with (first|(go_at_call 19;refine(fU.out _ (by repeat' (first|exact G.refl _|assumption|refine G.alloc ?_ _|refine G.drew ?_ |refine G.drewN ?_ _|(refine G.trans ?_ (by assumption))))).mono ?_;rintro e wn ⟨rfl,hbn⟩)|(go_at_call 64;refine(ig.out _).mono ?_;rintro e wn ⟨rfl,hbn⟩));go_ret
        first|exact⟨by rw[ed.out];first|done|rfl,(by repeat' (first|exact G.refl _|assumption|refine G.alloc ?_ _|refine G.drew ?_ |refine G.drewN ?_ _|(refine G.trans ?_ (by assumption))))⟩|exact⟨by rw[dZ.out];first|done|rfl,(by repeat' (first|exact G.refl _|assumption|refine G.alloc ?_ _|refine G.drew ?_ |refine G.drewN ?_ _|(refine G.trans ?_ (by assumption))))⟩|exact⟨by rw[dm.out];first|done|rfl,(by repeat' (first|exact G.refl _|assumption|refine G.alloc ?_ _|refine G.drew ?_ |refine G.drewN ?_ _|(refine G.trans ?_ (by assumption))))⟩
      ·rw[oC.out rfl] at jQ fI dZ dm ⊢;clear hm1;rcases hm with rfl|rfl|rfl
       all_goals
        go_wp2_with (first|(go_at_call 19;refine(fU.out _ (by repeat' (first|exact G.refl _|assumption|refine G.alloc ?_ _|refine G.drew ?_ |refine G.drewN ?_ _|(refine G.trans ?_ (by assumption))))).mono ?_;rintro e wn ⟨rfl,hbn⟩)|(go_at_call 64;refine(ig.out _).mono ?_;rintro e wn ⟨rfl,hbn⟩));go_ret
        first|exact⟨by rw[ed.out];first|done|rfl,(by repeat' (first|exact G.refl _|assumption|refine G.alloc ?_ _|refine G.drew ?_ |refine G.drewN ?_ _|(refine G.trans ?_ (by assumption))))⟩|exact⟨by rw[dZ.out];first|done|rfl,(by repeat' (first|exact G.refl _|assumption|refine G.alloc ?_ _|refine G.drew ?_ |refine G.drewN ?_ _|(refine G.trans ?_ (by assumption))))⟩|exact⟨by rw[dm.out];first|done|rfl,(by repeat' (first|exact G.refl _|assumption|refine G.alloc ?_ _|refine G.drew ?_ |refine G.drewN ?_ _|(refine G.trans ?_ (by assumption))))⟩
end Go.Proofs.YtbfjihniphldaaaGreatDoor.EN
