/- What is proved here: the reference's rounding of a fraction, over this seat's translation. -/
import Derived.Test.YtemmkninoiclfaaGreatDoorC36
namespace Go.Proofs.YtemmkninoiclfaaGreatDoor.EN
open Go.ChangeShapes Go.WideShapes Go.ChangeAt Go.RowKit
attribute [local go_sem] q0h q0p
theorem q3i (w:World) (u v:Value) (x y:Rat) (K:Nat) (hK:K≤40000) (qx:QB x K) (qy:QB y K) (hu:PR w u x) (hv:PR w v y):
  Calls Tryz.prog 65 #[u,v] w fun e w'=>e= .returned (.int .i64 (x.num*y.den-y.num*x.den).sign)∧G w w':=by
 obtain⟨bx,rfl,hbx,hx⟩:=hu
 obtain⟨b2,rfl,hby,hy⟩:=hv
 exact qbp w bx b2 x y K hK qx qy hbx hby (Or.inl hx) (Or.inl hy)
theorem q9J (w:World):Calls Tryz.prog 66 #[.int .i64 (-1)] w fun e w'=>e= .returned (.float .f64 FT.ninf)∧G w w':=by
 go_enter Tryz.func66,Tryz.ntmps66
 go_wp2
 go_ret
 exact⟨rfl,G.refl _⟩
theorem qbH {q:Rat} (h0:q≠0):q.num.sign=if decide (q.num<0)=true then -1 else 1:=qbn h0
set_option maxHeartbeats 4000000 in
set_option maxRecDepth 10000 in
/-- Rounding of a fraction above 0. -/
theorem q6o (w:World) (u:Value) (q:Rat) (m:Int) (h0:0<q.num) (hq:QB q 80) (hm:m=1∨m=2∨m=3∨m=4) (hu:PR w u q):
  Calls Tryz.prog 18 #[u,.int .i64 m] w fun e w'=>e= .returned (.float .f64 (rdW m q))∧G w w':=by
 have hs:decide (q.num<0)=false:=decide_eq_false (by omega)
 have hq0:q≠0:=by rintro rfl;exact absurd h0 (by decide)
 have hA:q.num.natAbs≠0:=by omega
 obtain⟨T,hT⟩:∃ T,T=tV q.num.natAbs q.den:=⟨_,rfl⟩
 obtain⟨l,hl⟩:∃ l,l=lV q.num.natAbs q.den:=⟨_,rfl⟩
 obtain⟨V,hV⟩:∃ V,V=rdV 1 false q.num.natAbs q.den:=⟨_,rfl⟩
 obtain⟨hw1,hw2,hw3,hw4⟩:=q52 hq0 hs.symm hT hl hV
 have nC:Hid _:=hw4
 have HT0:Hid (l=0→T≠0):=fun h e=>by
  have k:=(q1U hA q.den_nz).2.2.1 (by rw[← hl];exact h)
  rw[← hT,e,show FT.v 0=0 from by decide,Nat.zero_mul] at k
  have:=Nat.mul_pos (Nat.pos_of_ne_zero hA) (Nat.two_pow_pos 1074)
  omega
 have eX:Hid (rdW 2 q=FT.wrd false T):=by show _=_;unfold rdW;rw[hs,q5U,← hT,← hl];congr 1;simp
 have ic:Hid (rdW 3 q=FT.wrd false (if l≠0 then T+1 else T)):=by show _=_;unfold rdW;rw[hs,qbQ,← hT,← hl];congr 1;simp
 have fU:Hid (rdW 4 q=FT.wrd false T):=by show _=_;unfold rdW;rw[hs,qbX,← hT]
 have wH:Hid (rdW 1 q=FT.wrd false V):=by show _=_;unfold rdW;rw[hs,hV]
 have mh:V≤2047*2^52:=by rw[hV];exact qbF 1 false hA q.den_nz
 have HF:Hid (∀ W,G w W→Calls Tryz.prog 63 #[u] W (q7z W (FT.wrd false V))):=fun W g=>by
  obtain⟨p,rfl,hp,hr⟩:=hu
  have k:=q4T W p q hq0 hq (G.lt g hp) (hr.G hp g)
  have e:nR q=FT.wrd false V:=by
   show FT.wrd (decide (q.num<0)) (rdV 1 (decide (q.num<0)) q.num.natAbs q.den)=_
   rw[hs,hV]
  rw[e] at k
  exact k
 have gu:Hid (∀ W,G w W→Calls Tryz.prog 19 #[u] W fun e w'=>e= .returned (.int .i64 1)∧G W w'):=fun W g=>by
  have k:=q3o W u q (hu.G g)
  rw[qbH hq0,hs] at k
  exact k
 have iA:Hid (∀ W:World,Calls Tryz.prog 64 #[.float .f64 0,.float .f64 4607182418800017408] W fun e w'=>e= .returned (.float .f64 (FT.wrd false 0))∧G W w'):=fun W=>q67 false W
 have hcv:=q8t
 have HI1:Hid (∀ W:World,Calls Tryz.prog 42 #[.float .f64 (FT.wrd false V),.int .i64 1] W fun e w'=>e= .returned (.bool (decide (V=2047*2^52)))∧G W w'):=fun W=>q62 false V W mh
 have HI2:Hid (∀ W:World,Calls Tryz.prog 42 #[.float .f64 (FT.wrd false V),.int .i64 (-1)] W fun e w'=>e= .returned (.bool false)∧G W w'):=fun W=>q6q false V W mh
 have bP:Hid (V<2047*2^52→∀ W,Calls Tryz.prog 10 #[.float .f64 (FT.wrd false V)] W (RetP W (FQ (FT.wrd false V)))):=fun h W=>by
  have hx:=(fq_v false h).2
  have h64:=FT.wrd_lt false V (by omega)
  rw[q5v h64 hx]
  exact q3Z W _ h64 hx
 have bM:Hid (V<2047*2^52→∀ W v,G w W→PR W v (FQ (FT.wrd false V))→_):=fun h W v g hv=>q3i W v u _ q 80 (by omega) (qbc (fq_v false h).2) hq hv (hu.G g)
 have uA:Hid (∀ W:World,Calls Tryz.prog 66 #[.int .i64 (-1)] W fun e w'=>e= .returned (.float .f64 FT.ninf)∧G W w'):=fun W=>q9J W
 have nD:Hid (∀ W:World,Calls Tryz.prog 66 #[.int .i64 1] W fun e w'=>e= .returned (.float .f64 FT.infR)∧G W w'):=fun W=>q8Y 1 W (by omega)
 have fP:Hid True:=trivial
 have mi:True:=trivial
 have hzn:=q0k false (V:=V) (by omega)
 clear hT hl hV hs hA hq0 hw4 hq h0
 go_enter Tryz.func18,Tryz.ntmps18
 go_wp2_with fail
 refine Calls.mono (P:=Tryz.prog) (HF.out w (G.refl _)) ?_
 rintro e wa ⟨xx,rfl,ga⟩
 go_wp2_with fail
 refine Calls.mono (P:=Tryz.prog) (gu.out wa ga) ?_
 rintro e wb ⟨rfl,gb⟩
 by_cases oG:V=0
 ·skip
  rw[decide_eq_true oG] at hzn
  have qV:Hid (V=0):=oG
  clear oG
  go_wp2_with fail
  refine Calls.mono (P:=Tryz.prog) (gu.out wb (by repeat' (first|exact G.refl _|assumption|refine G.alloc ?_ _|refine G.drew ?_ |refine G.drewN ?_ _|(refine G.trans ?_ (by assumption))))) ?_
  rintro e wc ⟨rfl,gc⟩
  go_wp2_with fail
  have uH:Hid (∀ W:World,Calls Tryz.prog 64 #[.float .f64 0,.float .f64 4607182418800017408] W fun e w'=>e= .returned (.float .f64 (FT.wrd false V))∧G W w'):=fun W=>by rw[qV.out];exact iA.out W
  refine Calls.mono (P:=Tryz.prog) (uH.out wc) ?_
  rintro e w2 ⟨rfl,gd⟩
  have g2:G w w2:=(by repeat' (first|exact G.refl _|assumption|refine G.alloc ?_ _|refine G.drew ?_ |refine G.drewN ?_ _|(refine G.trans ?_ (by assumption))))
  clear ga gb gc gd uH
  clear HF
  rcases hm with rfl|hm
  ·go_wp2_with fail
   go_ret
   exact⟨by rw[wH.out];first|done|rfl,g2⟩
  ·have hm1:(m==1)=false:=by simp;omega
   clear hzn qV wH mh
   go_wp2_with fail
   refine Calls.mono (P:=Tryz.prog) (HI1.out w2) ?_
   rintro e w3 ⟨rfl,g3⟩
   by_cases dh:V=2047*2^52
   ·obtain⟨lo,hlo⟩:∃ lo,lo=FT.wrd false V:=⟨_,rfl⟩
    have oN:T+1=V:=by rcases hw2 with h|h<;>omega
    have hl0:l≠0:=hw3 oN.symm
    have HZ1:(FloatKind.f64.format.order 9218868437227405311 0==some .eq)=false:=by decide+kernel
    have HZ2:(FloatKind.f64.format.order lo 0==some .eq)=false:=by rw[hlo,q0k false (by omega)];exact decide_eq_false (by omega)
    have HT1:Hid (FT.wrd false T=9218868437227405311):=by show _=_;rw[show T=2047*2^52-1 from by omega];rfl
    have eG:Hid (rdW 3 q=lo):=by show _=_;rw[ic.out,if_pos hl0,oN,hlo]
    have eH:Hid (rdW 2 q=9218868437227405311):=by show _=_;rw[eX.out,HT1.out]
    have dA:Hid (rdW 4 q=9218868437227405311):=by show _=_;rw[fU.out,HT1.out]
    rw[decide_eq_true dh]
    rw[← hlo] at HI2 ⊢
    clear hlo oN hl0 dh HT1 hw1 hw2 hw3 bP bM fP eX ic fU
    clear hm1
    rcases hm with rfl|rfl|rfl
    all_goals
     go_wp2_with (first|(go_at_call 19;refine(gu.out _ (by repeat' (first|exact G.refl _|assumption|refine G.alloc ?_ _|refine G.drew ?_ |refine G.drewN ?_ _|(refine G.trans ?_ (by assumption))))).mono ?_;rintro e wn ⟨rfl,hbn⟩)|(go_at_call 64;refine(iA.out _).mono ?_;rintro e wn ⟨rfl,hbn⟩))
     go_ret
     first|exact⟨by rw[eH.out];first|done|rfl,(by repeat' (first|exact G.refl _|assumption|refine G.alloc ?_ _|refine G.drew ?_ |refine G.drewN ?_ _|(refine G.trans ?_ (by assumption))))⟩|exact⟨by rw[eG.out];first|done|rfl,(by repeat' (first|exact G.refl _|assumption|refine G.alloc ?_ _|refine G.drew ?_ |refine G.drewN ?_ _|(refine G.trans ?_ (by assumption))))⟩|exact⟨by rw[dA.out];first|done|rfl,(by repeat' (first|exact G.refl _|assumption|refine G.alloc ?_ _|refine G.drew ?_ |refine G.drewN ?_ _|(refine G.trans ?_ (by assumption))))⟩
   ·have dI:V<2047*2^52:=by omega
    rw[decide_eq_false dh]
    go_wp2_with fail
    refine Calls.mono (P:=Tryz.prog) (HI2.out w3) ?_
    rintro e w4 ⟨rfl,g4⟩
    go_wp2_with fail
    refine Calls.mono (P:=Tryz.prog) (bP.out dI w4) ?_
    rintro e w5 ⟨v5,rfl,g5,k5⟩
    have ku:Hid (PR w5 v5 (FQ (FT.wrd false V))):=k5
    clear k5
    go_wp2_with fail
    refine Calls.mono (P:=Tryz.prog) (bM.out dI w5 v5 (by repeat' (first|exact G.refl _|assumption|refine G.alloc ?_ _|refine G.drew ?_ |refine G.drewN ?_ _|(refine G.trans ?_ (by assumption)))) ku.out) ?_
    rintro e w6 ⟨rfl,g6⟩
    have hc6:=(nC.out dI)
    by_cases hl0:l=0
    ·have dx:V=T:=by rcases hw2 with h|h;exact h;exact absurd hl0 (hw3 h)
     rw[if_pos hl0] at hc6
     rw[hc6]
     obtain⟨lo,hlo⟩:∃ lo,lo=FT.wrd false V:=⟨_,rfl⟩
     have hT0:V≠0:=by rw[dx];exact HT0.out hl0
     have HZ1:(FloatKind.f64.format.order lo 0==some .eq)=false:=by rw[hlo,q0k false (by omega)];exact decide_eq_false hT0
     have eG:Hid (rdW 3 q=lo):=by show _=_;rw[ic.out,if_neg (by simpa using hl0),← dx,hlo]
     have eH:Hid (rdW 2 q=lo):=by show _=_;rw[eX.out,← dx,hlo]
     have dA:Hid (rdW 4 q=lo):=by show _=_;rw[fU.out,← dx,hlo]
     rw[← hlo] at bP bM ku ⊢
     have bP:Hid (∀ W,_):=fun W=>bP.out dI W
     have bM:Hid (∀ W v,G w W→PR W v (FQ lo)→Calls Tryz.prog 65 #[v,u] W fun e w'=>e= .returned (.int .i64 0)∧G W w'):=fun W v g h=>by have k:=bM.out dI W v g h;rw[hlo] at k;rw[hc6] at k;exact k
     clear hlo dx hl0 hT0 dh dI hc6 hw1 hw2 hw3 fP eX ic fU nC
     go_wp2_with fail
     refine Calls.mono (P:=Tryz.prog) (bP.out w6) ?_
     rintro e w7 ⟨v7,rfl,g7,k7⟩
     have dH:Hid (PR w7 v7 (FQ lo)):=k7
     clear k7
     go_wp2_with fail
     refine Calls.mono (P:=Tryz.prog) (bM.out w7 v7 (by repeat' (first|exact G.refl _|assumption|refine G.alloc ?_ _|refine G.drew ?_ |refine G.drewN ?_ _|(refine G.trans ?_ (by assumption)))) dH.out) ?_
     rintro e w8 ⟨rfl,g8⟩
     clear hm1
     rcases hm with rfl|rfl|rfl
     all_goals
      go_wp2_with (first|(go_at_call 19;refine(gu.out _ (by repeat' (first|exact G.refl _|assumption|refine G.alloc ?_ _|refine G.drew ?_ |refine G.drewN ?_ _|(refine G.trans ?_ (by assumption))))).mono ?_;rintro e wn ⟨rfl,hbn⟩)|(go_at_call 64;refine(iA.out _).mono ?_;rintro e wn ⟨rfl,hbn⟩))
      go_ret
      first|exact⟨by rw[eH.out];first|done|rfl,(by repeat' (first|exact G.refl _|assumption|refine G.alloc ?_ _|refine G.drew ?_ |refine G.drewN ?_ _|(refine G.trans ?_ (by assumption))))⟩|exact⟨by rw[eG.out];first|done|rfl,(by repeat' (first|exact G.refl _|assumption|refine G.alloc ?_ _|refine G.drew ?_ |refine G.drewN ?_ _|(refine G.trans ?_ (by assumption))))⟩|exact⟨by rw[dA.out];first|done|rfl,(by repeat' (first|exact G.refl _|assumption|refine G.alloc ?_ _|refine G.drew ?_ |refine G.drewN ?_ _|(refine G.trans ?_ (by assumption))))⟩
    ·rw[if_neg hl0] at hc6
     by_cases dx:V=T
     ·skip
      rw[if_pos dx] at hc6
      simp only[Bool.false_eq_true,if_false] at hc6
      rw[hc6]
      obtain⟨nr,hnr⟩:∃ nr,nr=FT.wrd false V:=⟨_,rfl⟩
      obtain⟨fr,hfr⟩:∃ fr,fr=FT.wrd false (T+1):=⟨_,rfl⟩
      have dm:Hid (FT.wrd false T=nr):=by show _=_;rw[hnr,dx]
      have fM:Hid (FT.wrd false (T+1)=fr):=by show _=_;rw[hfr]
      have AL:(FloatKind.f64.format.order fr 0==some .eq)=false:=by rw[← fM.out,q0k false (by omega)];exact decide_eq_false (by omega)
      have jX:(FloatKind.f64.format.order nr 0==some .eq)=decide (T=0):=by rw[← dm.out,q0k false (by omega)]
      have eG:Hid (rdW 3 q=fr):=by show _=_;rw[ic.out,if_pos hl0,fM.out]
      have eH:Hid (rdW 2 q=nr):=by show _=_;rw[eX.out,dm.out]
      have dA:Hid (rdW 4 q=nr):=by show _=_;rw[fU.out,dm.out]
      have fP:Hid (∀ W,Calls Tryz.prog 39 #[.float .f64 nr,.float .f64 FT.infR] W fun e w'=>e= .returned (.float .f64 fr)∧G W w'):=fun W=>by
       have k:=q0W nr W (by rw[hnr];exact FT.wrd_lt false _ (by omega))
       have e:upV nr=fr:=by rw[← dm.out,q7t (V:=T) (by omega)];exact fM.out
       rw[e] at k
       exact k
      rw[← hnr] at bP bM ku ⊢
      have bP:Hid (∀ W,_):=fun W=>bP.out dI W
      have bM:Hid (∀ W v,G w W→PR W v (FQ nr)→Calls Tryz.prog 65 #[v,u] W fun e w'=>e= .returned (.int .i64 (-1))∧G W w'):=fun W v g h=>by have k:=bM.out dI W v g h;rw[hnr] at k;rw[hc6] at k;exact k
      obtain⟨t0,ht0⟩:∃ t0,t0=decide (T=0):=⟨_,rfl⟩
      rw[← ht0] at jX
      have oO:Hid (t0=true→nr=FT.wrd false 0):=fun h=>by rw[h] at ht0;rw[← dm.out,of_decide_eq_true ht0.symm]
      clear mi ht0 hnr hfr dx hl0 dh dI hc6 hw1 hw2 hw3 eX ic fU nC dm fM
      go_wp2_with fail
      refine Calls.mono (P:=Tryz.prog) (nD.out w6) ?_
      rintro e w9 ⟨rfl,g9⟩
      go_wp2_with fail
      refine Calls.mono (P:=Tryz.prog) (fP.out w9) ?_
      rintro e aU ⟨rfl,g10⟩
      cases t0
      ·skip
       clear hm1
       rcases hm with rfl|rfl|rfl
       all_goals
        go_wp2_with (first|(go_at_call 19;refine(gu.out _ (by repeat' (first|exact G.refl _|assumption|refine G.alloc ?_ _|refine G.drew ?_ |refine G.drewN ?_ _|(refine G.trans ?_ (by assumption))))).mono ?_;rintro e wn ⟨rfl,hbn⟩)|(go_at_call 64;refine(iA.out _).mono ?_;rintro e wn ⟨rfl,hbn⟩))
        go_ret
        first|exact⟨by rw[eH.out];first|done|rfl,(by repeat' (first|exact G.refl _|assumption|refine G.alloc ?_ _|refine G.drew ?_ |refine G.drewN ?_ _|(refine G.trans ?_ (by assumption))))⟩|exact⟨by rw[eG.out];first|done|rfl,(by repeat' (first|exact G.refl _|assumption|refine G.alloc ?_ _|refine G.drew ?_ |refine G.drewN ?_ _|(refine G.trans ?_ (by assumption))))⟩|exact⟨by rw[dA.out];first|done|rfl,(by repeat' (first|exact G.refl _|assumption|refine G.alloc ?_ _|refine G.drew ?_ |refine G.drewN ?_ _|(refine G.trans ?_ (by assumption))))⟩
      ·rw[oO.out rfl] at jX fP eH dA ⊢
       clear hm1
       rcases hm with rfl|rfl|rfl
       all_goals
        go_wp2_with (first|(go_at_call 19;refine(gu.out _ (by repeat' (first|exact G.refl _|assumption|refine G.alloc ?_ _|refine G.drew ?_ |refine G.drewN ?_ _|(refine G.trans ?_ (by assumption))))).mono ?_;rintro e wn ⟨rfl,hbn⟩)|(go_at_call 64;refine(iA.out _).mono ?_;rintro e wn ⟨rfl,hbn⟩))
        go_ret
        first|exact⟨by rw[eH.out];first|done|rfl,(by repeat' (first|exact G.refl _|assumption|refine G.alloc ?_ _|refine G.drew ?_ |refine G.drewN ?_ _|(refine G.trans ?_ (by assumption))))⟩|exact⟨by rw[eG.out];first|done|rfl,(by repeat' (first|exact G.refl _|assumption|refine G.alloc ?_ _|refine G.drew ?_ |refine G.drewN ?_ _|(refine G.trans ?_ (by assumption))))⟩|exact⟨by rw[dA.out];first|done|rfl,(by repeat' (first|exact G.refl _|assumption|refine G.alloc ?_ _|refine G.drew ?_ |refine G.drewN ?_ _|(refine G.trans ?_ (by assumption))))⟩
     ·skip
      rw[if_neg dx] at hc6
      simp only[Bool.false_eq_true,if_false] at hc6
      rw[hc6]
      have jY:V=T+1:=by rcases hw2 with h|h;exact absurd h dx;exact h
      obtain⟨fr,hfr⟩:∃ fr,fr=FT.wrd false V:=⟨_,rfl⟩
      obtain⟨nr,hnr⟩:∃ nr,nr=FT.wrd false T:=⟨_,rfl⟩
      have dm:Hid (FT.wrd false T=nr):=hnr.symm
      have fM:Hid (FT.wrd false (T+1)=fr):=by show _=_;rw[hfr,jY]
      have AL:(FloatKind.f64.format.order fr 0==some .eq)=false:=by rw[← fM.out,q0k false (by omega)];exact decide_eq_false (by omega)
      have jX:(FloatKind.f64.format.order nr 0==some .eq)=decide (T=0):=by rw[← dm.out,q0k false (by omega)]
      have eG:Hid (rdW 3 q=fr):=by show _=_;rw[ic.out,if_pos hl0,fM.out]
      have eH:Hid (rdW 2 q=nr):=by show _=_;rw[eX.out,dm.out]
      have dA:Hid (rdW 4 q=nr):=by show _=_;rw[fU.out,dm.out]
      have fP:Hid (∀ W,Calls Tryz.prog 39 #[.float .f64 fr,.float .f64 FT.ninf] W fun e w'=>e= .returned (.float .f64 nr)∧G W w'):=fun W=>by
       have k:=q14 fr W (by rw[hfr];exact FT.wrd_lt false _ (by omega))
       have e:q3E fr=nr:=by rw[← fM.out,q66 (V:=T) (by omega)];exact dm.out
       rw[e] at k
       exact k
      rw[← hfr] at bP bM ku ⊢
      have bP:Hid (∀ W,_):=fun W=>bP.out dI W
      have bM:Hid (∀ W v,G w W→PR W v (FQ fr)→Calls Tryz.prog 65 #[v,u] W fun e w'=>e= .returned (.int .i64 1)∧G W w'):=fun W v g h=>by have k:=bM.out dI W v g h;rw[hfr] at k;rw[hc6] at k;exact k
      obtain⟨t0,ht0⟩:∃ t0,t0=decide (T=0):=⟨_,rfl⟩
      rw[← ht0] at jX
      have oO:Hid (t0=true→nr=FT.wrd false 0):=fun h=>by rw[h] at ht0;rw[← dm.out,of_decide_eq_true ht0.symm]
      clear jY mi ht0 hnr hfr dx hl0 dh dI hc6 hw1 hw2 hw3 eX ic fU nC dm fM
      go_wp2_with fail
      refine Calls.mono (P:=Tryz.prog) (bP.out w6) ?_
      rintro e w7 ⟨v7,rfl,g7,k7⟩
      have dH:Hid (PR w7 v7 (FQ fr)):=k7
      clear k7
      go_wp2_with fail
      refine Calls.mono (P:=Tryz.prog) (bM.out w7 v7 (by repeat' (first|exact G.refl _|assumption|refine G.alloc ?_ _|refine G.drew ?_ |refine G.drewN ?_ _|(refine G.trans ?_ (by assumption)))) dH.out) ?_
      rintro e w8 ⟨rfl,g8⟩
      go_wp2_with fail
      refine Calls.mono (P:=Tryz.prog) (uA.out w8) ?_
      rintro e w9 ⟨rfl,g9⟩
      go_wp2_with fail
      refine Calls.mono (P:=Tryz.prog) (fP.out w9) ?_
      rintro e aU ⟨rfl,g10⟩
      cases t0
      ·skip
       clear hm1
       rcases hm with rfl|rfl|rfl
       all_goals
        go_wp2_with (first|(go_at_call 19;refine(gu.out _ (by repeat' (first|exact G.refl _|assumption|refine G.alloc ?_ _|refine G.drew ?_ |refine G.drewN ?_ _|(refine G.trans ?_ (by assumption))))).mono ?_;rintro e wn ⟨rfl,hbn⟩)|(go_at_call 64;refine(iA.out _).mono ?_;rintro e wn ⟨rfl,hbn⟩))
        go_ret
        first|exact⟨by rw[eH.out];first|done|rfl,(by repeat' (first|exact G.refl _|assumption|refine G.alloc ?_ _|refine G.drew ?_ |refine G.drewN ?_ _|(refine G.trans ?_ (by assumption))))⟩|exact⟨by rw[eG.out];first|done|rfl,(by repeat' (first|exact G.refl _|assumption|refine G.alloc ?_ _|refine G.drew ?_ |refine G.drewN ?_ _|(refine G.trans ?_ (by assumption))))⟩|exact⟨by rw[dA.out];first|done|rfl,(by repeat' (first|exact G.refl _|assumption|refine G.alloc ?_ _|refine G.drew ?_ |refine G.drewN ?_ _|(refine G.trans ?_ (by assumption))))⟩
      ·rw[oO.out rfl] at jX fP eH dA ⊢
       clear hm1
       rcases hm with rfl|rfl|rfl
       all_goals
        go_wp2_with (first|(go_at_call 19;refine(gu.out _ (by repeat' (first|exact G.refl _|assumption|refine G.alloc ?_ _|refine G.drew ?_ |refine G.drewN ?_ _|(refine G.trans ?_ (by assumption))))).mono ?_;rintro e wn ⟨rfl,hbn⟩)|(go_at_call 64;refine(iA.out _).mono ?_;rintro e wn ⟨rfl,hbn⟩))
        go_ret
        first|exact⟨by rw[eH.out];first|done|rfl,(by repeat' (first|exact G.refl _|assumption|refine G.alloc ?_ _|refine G.drew ?_ |refine G.drewN ?_ _|(refine G.trans ?_ (by assumption))))⟩|exact⟨by rw[eG.out];first|done|rfl,(by repeat' (first|exact G.refl _|assumption|refine G.alloc ?_ _|refine G.drew ?_ |refine G.drewN ?_ _|(refine G.trans ?_ (by assumption))))⟩|exact⟨by rw[dA.out];first|done|rfl,(by repeat' (first|exact G.refl _|assumption|refine G.alloc ?_ _|refine G.drew ?_ |refine G.drewN ?_ _|(refine G.trans ?_ (by assumption))))⟩
 ·skip
  rw[decide_eq_false oG] at hzn
  have qV:Hid (V≠0):=oG
  clear oG
  skip
  obtain⟨w2,oP⟩:∃ w2,w2=wb:=⟨_,rfl⟩
  rw[← oP]
  have g2:G w w2:=by rw[oP];exact G.trans ga gb
  clear ga gb oP
  clear HF
  rcases hm with rfl|hm
  ·go_wp2_with fail
   go_ret
   exact⟨by rw[wH.out];first|done|rfl,g2⟩
  ·have hm1:(m==1)=false:=by simp;omega
   clear qV wH mh
   go_wp2_with fail
   refine Calls.mono (P:=Tryz.prog) (HI1.out w2) ?_
   rintro e w3 ⟨rfl,g3⟩
   by_cases dh:V=2047*2^52
   ·obtain⟨lo,hlo⟩:∃ lo,lo=FT.wrd false V:=⟨_,rfl⟩
    have oN:T+1=V:=by rcases hw2 with h|h<;>omega
    have hl0:l≠0:=hw3 oN.symm
    have HZ1:(FloatKind.f64.format.order 9218868437227405311 0==some .eq)=false:=by decide+kernel
    have HZ2:(FloatKind.f64.format.order lo 0==some .eq)=false:=by rw[hlo,q0k false (by omega)];exact decide_eq_false (by omega)
    have HT1:Hid (FT.wrd false T=9218868437227405311):=by show _=_;rw[show T=2047*2^52-1 from by omega];rfl
    have eG:Hid (rdW 3 q=lo):=by show _=_;rw[ic.out,if_pos hl0,oN,hlo]
    have eH:Hid (rdW 2 q=9218868437227405311):=by show _=_;rw[eX.out,HT1.out]
    have dA:Hid (rdW 4 q=9218868437227405311):=by show _=_;rw[fU.out,HT1.out]
    rw[decide_eq_true dh]
    rw[← hlo] at HI2 ⊢
    clear hlo oN hl0 dh HT1 hw1 hw2 hw3 bP bM fP eX ic fU
    clear hm1
    rcases hm with rfl|rfl|rfl
    all_goals
     go_wp2_with (first|(go_at_call 19;refine(gu.out _ (by repeat' (first|exact G.refl _|assumption|refine G.alloc ?_ _|refine G.drew ?_ |refine G.drewN ?_ _|(refine G.trans ?_ (by assumption))))).mono ?_;rintro e wn ⟨rfl,hbn⟩)|(go_at_call 64;refine(iA.out _).mono ?_;rintro e wn ⟨rfl,hbn⟩))
     go_ret
     first|exact⟨by rw[eH.out];first|done|rfl,(by repeat' (first|exact G.refl _|assumption|refine G.alloc ?_ _|refine G.drew ?_ |refine G.drewN ?_ _|(refine G.trans ?_ (by assumption))))⟩|exact⟨by rw[eG.out];first|done|rfl,(by repeat' (first|exact G.refl _|assumption|refine G.alloc ?_ _|refine G.drew ?_ |refine G.drewN ?_ _|(refine G.trans ?_ (by assumption))))⟩|exact⟨by rw[dA.out];first|done|rfl,(by repeat' (first|exact G.refl _|assumption|refine G.alloc ?_ _|refine G.drew ?_ |refine G.drewN ?_ _|(refine G.trans ?_ (by assumption))))⟩
   ·have dI:V<2047*2^52:=by omega
    rw[decide_eq_false dh]
    go_wp2_with fail
    refine Calls.mono (P:=Tryz.prog) (HI2.out w3) ?_
    rintro e w4 ⟨rfl,g4⟩
    go_wp2_with fail
    refine Calls.mono (P:=Tryz.prog) (bP.out dI w4) ?_
    rintro e w5 ⟨v5,rfl,g5,k5⟩
    have ku:Hid (PR w5 v5 (FQ (FT.wrd false V))):=k5
    clear k5
    go_wp2_with fail
    refine Calls.mono (P:=Tryz.prog) (bM.out dI w5 v5 (by repeat' (first|exact G.refl _|assumption|refine G.alloc ?_ _|refine G.drew ?_ |refine G.drewN ?_ _|(refine G.trans ?_ (by assumption)))) ku.out) ?_
    rintro e w6 ⟨rfl,g6⟩
    have hc6:=(nC.out dI)
    by_cases hl0:l=0
    ·have dx:V=T:=by rcases hw2 with h|h;exact h;exact absurd hl0 (hw3 h)
     rw[if_pos hl0] at hc6
     rw[hc6]
     obtain⟨lo,hlo⟩:∃ lo,lo=FT.wrd false V:=⟨_,rfl⟩
     have hT0:V≠0:=by rw[dx];exact HT0.out hl0
     have HZ1:(FloatKind.f64.format.order lo 0==some .eq)=false:=by rw[hlo,q0k false (by omega)];exact decide_eq_false hT0
     have eG:Hid (rdW 3 q=lo):=by show _=_;rw[ic.out,if_neg (by simpa using hl0),← dx,hlo]
     have eH:Hid (rdW 2 q=lo):=by show _=_;rw[eX.out,← dx,hlo]
     have dA:Hid (rdW 4 q=lo):=by show _=_;rw[fU.out,← dx,hlo]
     rw[← hlo] at bP bM ku ⊢
     have bP:Hid (∀ W,_):=fun W=>bP.out dI W
     have bM:Hid (∀ W v,G w W→PR W v (FQ lo)→Calls Tryz.prog 65 #[v,u] W fun e w'=>e= .returned (.int .i64 0)∧G W w'):=fun W v g h=>by have k:=bM.out dI W v g h;rw[hlo] at k;rw[hc6] at k;exact k
     clear hlo dx hl0 hT0 dh dI hc6 hw1 hw2 hw3 fP eX ic fU nC
     go_wp2_with fail
     refine Calls.mono (P:=Tryz.prog) (bP.out w6) ?_
     rintro e w7 ⟨v7,rfl,g7,k7⟩
     have dH:Hid (PR w7 v7 (FQ lo)):=k7
     clear k7
     go_wp2_with fail
     refine Calls.mono (P:=Tryz.prog) (bM.out w7 v7 (by repeat' (first|exact G.refl _|assumption|refine G.alloc ?_ _|refine G.drew ?_ |refine G.drewN ?_ _|(refine G.trans ?_ (by assumption)))) dH.out) ?_
     rintro e w8 ⟨rfl,g8⟩
     clear hm1
     rcases hm with rfl|rfl|rfl
     all_goals
      go_wp2_with (first|(go_at_call 19;refine(gu.out _ (by repeat' (first|exact G.refl _|assumption|refine G.alloc ?_ _|refine G.drew ?_ |refine G.drewN ?_ _|(refine G.trans ?_ (by assumption))))).mono ?_;rintro e wn ⟨rfl,hbn⟩)|(go_at_call 64;refine(iA.out _).mono ?_;rintro e wn ⟨rfl,hbn⟩))
      go_ret
      first|exact⟨by rw[eH.out];first|done|rfl,(by repeat' (first|exact G.refl _|assumption|refine G.alloc ?_ _|refine G.drew ?_ |refine G.drewN ?_ _|(refine G.trans ?_ (by assumption))))⟩|exact⟨by rw[eG.out];first|done|rfl,(by repeat' (first|exact G.refl _|assumption|refine G.alloc ?_ _|refine G.drew ?_ |refine G.drewN ?_ _|(refine G.trans ?_ (by assumption))))⟩|exact⟨by rw[dA.out];first|done|rfl,(by repeat' (first|exact G.refl _|assumption|refine G.alloc ?_ _|refine G.drew ?_ |refine G.drewN ?_ _|(refine G.trans ?_ (by assumption))))⟩
    ·rw[if_neg hl0] at hc6
     by_cases dx:V=T
     ·skip
      rw[if_pos dx] at hc6
      simp only[Bool.false_eq_true,if_false] at hc6
      rw[hc6]
      obtain⟨nr,hnr⟩:∃ nr,nr=FT.wrd false V:=⟨_,rfl⟩
      obtain⟨fr,hfr⟩:∃ fr,fr=FT.wrd false (T+1):=⟨_,rfl⟩
      have dm:Hid (FT.wrd false T=nr):=by show _=_;rw[hnr,dx]
      have fM:Hid (FT.wrd false (T+1)=fr):=by show _=_;rw[hfr]
      have AL:(FloatKind.f64.format.order fr 0==some .eq)=false:=by rw[← fM.out,q0k false (by omega)];exact decide_eq_false (by omega)
      have jX:(FloatKind.f64.format.order nr 0==some .eq)=decide (T=0):=by rw[← dm.out,q0k false (by omega)]
      have eG:Hid (rdW 3 q=fr):=by show _=_;rw[ic.out,if_pos hl0,fM.out]
      have eH:Hid (rdW 2 q=nr):=by show _=_;rw[eX.out,dm.out]
      have dA:Hid (rdW 4 q=nr):=by show _=_;rw[fU.out,dm.out]
      have fP:Hid (∀ W,Calls Tryz.prog 39 #[.float .f64 nr,.float .f64 FT.infR] W fun e w'=>e= .returned (.float .f64 fr)∧G W w'):=fun W=>by
       have k:=q0W nr W (by rw[hnr];exact FT.wrd_lt false _ (by omega))
       have e:upV nr=fr:=by rw[← dm.out,q7t (V:=T) (by omega)];exact fM.out
       rw[e] at k
       exact k
      rw[← hnr] at bP bM ku ⊢
      have bP:Hid (∀ W,_):=fun W=>bP.out dI W
      have bM:Hid (∀ W v,G w W→PR W v (FQ nr)→Calls Tryz.prog 65 #[v,u] W fun e w'=>e= .returned (.int .i64 (-1))∧G W w'):=fun W v g h=>by have k:=bM.out dI W v g h;rw[hnr] at k;rw[hc6] at k;exact k
      obtain⟨t0,ht0⟩:∃ t0,t0=decide (T=0):=⟨_,rfl⟩
      rw[← ht0] at jX
      have oO:Hid (t0=true→nr=FT.wrd false 0):=fun h=>by rw[h] at ht0;rw[← dm.out,of_decide_eq_true ht0.symm]
      clear mi ht0 hnr hfr dx hl0 dh dI hc6 hw1 hw2 hw3 eX ic fU nC dm fM
      go_wp2_with fail
      refine Calls.mono (P:=Tryz.prog) (nD.out w6) ?_
      rintro e w9 ⟨rfl,g9⟩
      go_wp2_with fail
      refine Calls.mono (P:=Tryz.prog) (fP.out w9) ?_
      rintro e aU ⟨rfl,g10⟩
      cases t0
      ·skip
       clear hm1
       rcases hm with rfl|rfl|rfl
       all_goals
        go_wp2_with (first|(go_at_call 19;refine(gu.out _ (by repeat' (first|exact G.refl _|assumption|refine G.alloc ?_ _|refine G.drew ?_ |refine G.drewN ?_ _|(refine G.trans ?_ (by assumption))))).mono ?_;rintro e wn ⟨rfl,hbn⟩)|(go_at_call 64;refine(iA.out _).mono ?_;rintro e wn ⟨rfl,hbn⟩))
        go_ret
        first|exact⟨by rw[eH.out];first|done|rfl,(by repeat' (first|exact G.refl _|assumption|refine G.alloc ?_ _|refine G.drew ?_ |refine G.drewN ?_ _|(refine G.trans ?_ (by assumption))))⟩|exact⟨by rw[eG.out];first|done|rfl,(by repeat' (first|exact G.refl _|assumption|refine G.alloc ?_ _|refine G.drew ?_ |refine G.drewN ?_ _|(refine G.trans ?_ (by assumption))))⟩|exact⟨by rw[dA.out];first|done|rfl,(by repeat' (first|exact G.refl _|assumption|refine G.alloc ?_ _|refine G.drew ?_ |refine G.drewN ?_ _|(refine G.trans ?_ (by assumption))))⟩
      ·rw[oO.out rfl] at jX fP eH dA ⊢
       clear hm1
       rcases hm with rfl|rfl|rfl
       all_goals
        go_wp2_with (first|(go_at_call 19;refine(gu.out _ (by repeat' (first|exact G.refl _|assumption|refine G.alloc ?_ _|refine G.drew ?_ |refine G.drewN ?_ _|(refine G.trans ?_ (by assumption))))).mono ?_;rintro e wn ⟨rfl,hbn⟩)|(go_at_call 64;refine(iA.out _).mono ?_;rintro e wn ⟨rfl,hbn⟩))
        go_ret
        first|exact⟨by rw[eH.out];first|done|rfl,(by repeat' (first|exact G.refl _|assumption|refine G.alloc ?_ _|refine G.drew ?_ |refine G.drewN ?_ _|(refine G.trans ?_ (by assumption))))⟩|exact⟨by rw[eG.out];first|done|rfl,(by repeat' (first|exact G.refl _|assumption|refine G.alloc ?_ _|refine G.drew ?_ |refine G.drewN ?_ _|(refine G.trans ?_ (by assumption))))⟩|exact⟨by rw[dA.out];first|done|rfl,(by repeat' (first|exact G.refl _|assumption|refine G.alloc ?_ _|refine G.drew ?_ |refine G.drewN ?_ _|(refine G.trans ?_ (by assumption))))⟩
     ·skip
      rw[if_neg dx] at hc6
      simp only[Bool.false_eq_true,if_false] at hc6
      rw[hc6]
      have jY:V=T+1:=by rcases hw2 with h|h;exact absurd h dx;exact h
      obtain⟨fr,hfr⟩:∃ fr,fr=FT.wrd false V:=⟨_,rfl⟩
      obtain⟨nr,hnr⟩:∃ nr,nr=FT.wrd false T:=⟨_,rfl⟩
      have dm:Hid (FT.wrd false T=nr):=hnr.symm
      have fM:Hid (FT.wrd false (T+1)=fr):=by show _=_;rw[hfr,jY]
      have AL:(FloatKind.f64.format.order fr 0==some .eq)=false:=by rw[← fM.out,q0k false (by omega)];exact decide_eq_false (by omega)
      have jX:(FloatKind.f64.format.order nr 0==some .eq)=decide (T=0):=by rw[← dm.out,q0k false (by omega)]
      have eG:Hid (rdW 3 q=fr):=by show _=_;rw[ic.out,if_pos hl0,fM.out]
      have eH:Hid (rdW 2 q=nr):=by show _=_;rw[eX.out,dm.out]
      have dA:Hid (rdW 4 q=nr):=by show _=_;rw[fU.out,dm.out]
      have fP:Hid (∀ W,Calls Tryz.prog 39 #[.float .f64 fr,.float .f64 FT.ninf] W fun e w'=>e= .returned (.float .f64 nr)∧G W w'):=fun W=>by
       have k:=q14 fr W (by rw[hfr];exact FT.wrd_lt false _ (by omega))
       have e:q3E fr=nr:=by rw[← fM.out,q66 (V:=T) (by omega)];exact dm.out
       rw[e] at k
       exact k
      rw[← hfr] at bP bM ku ⊢
      have bP:Hid (∀ W,_):=fun W=>bP.out dI W
      have bM:Hid (∀ W v,G w W→PR W v (FQ fr)→Calls Tryz.prog 65 #[v,u] W fun e w'=>e= .returned (.int .i64 1)∧G W w'):=fun W v g h=>by have k:=bM.out dI W v g h;rw[hfr] at k;rw[hc6] at k;exact k
      obtain⟨t0,ht0⟩:∃ t0,t0=decide (T=0):=⟨_,rfl⟩
      rw[← ht0] at jX
      have oO:Hid (t0=true→nr=FT.wrd false 0):=fun h=>by rw[h] at ht0;rw[← dm.out,of_decide_eq_true ht0.symm]
      clear jY mi ht0 hnr hfr dx hl0 dh dI hc6 hw1 hw2 hw3 eX ic fU nC dm fM
      go_wp2_with fail
      refine Calls.mono (P:=Tryz.prog) (bP.out w6) ?_
      rintro e w7 ⟨v7,rfl,g7,k7⟩
      have dH:Hid (PR w7 v7 (FQ fr)):=k7
      clear k7
      go_wp2_with fail
      refine Calls.mono (P:=Tryz.prog) (bM.out w7 v7 (by repeat' (first|exact G.refl _|assumption|refine G.alloc ?_ _|refine G.drew ?_ |refine G.drewN ?_ _|(refine G.trans ?_ (by assumption)))) dH.out) ?_
      rintro e w8 ⟨rfl,g8⟩
      go_wp2_with fail
      refine Calls.mono (P:=Tryz.prog) (uA.out w8) ?_
      rintro e w9 ⟨rfl,g9⟩
      go_wp2_with fail
      refine Calls.mono (P:=Tryz.prog) (fP.out w9) ?_
      rintro e aU ⟨rfl,g10⟩
      cases t0
      ·skip
       clear hm1
       rcases hm with rfl|rfl|rfl
       all_goals
        go_wp2_with (first|(go_at_call 19;refine(gu.out _ (by repeat' (first|exact G.refl _|assumption|refine G.alloc ?_ _|refine G.drew ?_ |refine G.drewN ?_ _|(refine G.trans ?_ (by assumption))))).mono ?_;rintro e wn ⟨rfl,hbn⟩)|(go_at_call 64;refine(iA.out _).mono ?_;rintro e wn ⟨rfl,hbn⟩))
        go_ret
        first|exact⟨by rw[eH.out];first|done|rfl,(by repeat' (first|exact G.refl _|assumption|refine G.alloc ?_ _|refine G.drew ?_ |refine G.drewN ?_ _|(refine G.trans ?_ (by assumption))))⟩|exact⟨by rw[eG.out];first|done|rfl,(by repeat' (first|exact G.refl _|assumption|refine G.alloc ?_ _|refine G.drew ?_ |refine G.drewN ?_ _|(refine G.trans ?_ (by assumption))))⟩|exact⟨by rw[dA.out];first|done|rfl,(by repeat' (first|exact G.refl _|assumption|refine G.alloc ?_ _|refine G.drew ?_ |refine G.drewN ?_ _|(refine G.trans ?_ (by assumption))))⟩
      ·rw[oO.out rfl] at jX fP eH dA ⊢
       clear hm1
       rcases hm with rfl|rfl|rfl
       all_goals
        go_wp2_with (first|(go_at_call 19;refine(gu.out _ (by repeat' (first|exact G.refl _|assumption|refine G.alloc ?_ _|refine G.drew ?_ |refine G.drewN ?_ _|(refine G.trans ?_ (by assumption))))).mono ?_;rintro e wn ⟨rfl,hbn⟩)|(go_at_call 64;refine(iA.out _).mono ?_;rintro e wn ⟨rfl,hbn⟩))
        go_ret
        first|exact⟨by rw[eH.out];first|done|rfl,(by repeat' (first|exact G.refl _|assumption|refine G.alloc ?_ _|refine G.drew ?_ |refine G.drewN ?_ _|(refine G.trans ?_ (by assumption))))⟩|exact⟨by rw[eG.out];first|done|rfl,(by repeat' (first|exact G.refl _|assumption|refine G.alloc ?_ _|refine G.drew ?_ |refine G.drewN ?_ _|(refine G.trans ?_ (by assumption))))⟩|exact⟨by rw[dA.out];first|done|rfl,(by repeat' (first|exact G.refl _|assumption|refine G.alloc ?_ _|refine G.drew ?_ |refine G.drewN ?_ _|(refine G.trans ?_ (by assumption))))⟩
set_option maxHeartbeats 4000000 in
set_option maxRecDepth 10000 in
/-- Rounding of a fraction below 0. -/
theorem q8y (w:World) (u:Value) (q:Rat) (m:Int) (h0:q.num<0) (hq:QB q 80) (hm:m=1∨m=2∨m=3∨m=4) (hu:PR w u q):
  Calls Tryz.prog 18 #[u,.int .i64 m] w fun e w'=>e= .returned (.float .f64 (rdW m q))∧G w w':=by
 have hs:decide (q.num<0)=true:=decide_eq_true h0
 have hq0:q≠0:=by rintro rfl;exact absurd h0 (by decide)
 have hA:q.num.natAbs≠0:=by omega
 obtain⟨T,hT⟩:∃ T,T=tV q.num.natAbs q.den:=⟨_,rfl⟩
 obtain⟨l,hl⟩:∃ l,l=lV q.num.natAbs q.den:=⟨_,rfl⟩
 obtain⟨V,hV⟩:∃ V,V=rdV 1 true q.num.natAbs q.den:=⟨_,rfl⟩
 obtain⟨hw1,hw2,hw3,hw4⟩:=q52 hq0 hs.symm hT hl hV
 have nC:Hid _:=hw4
 have HT0:Hid (l=0→T≠0):=fun h e=>by
  have k:=(q1U hA q.den_nz).2.2.1 (by rw[← hl];exact h)
  rw[← hT,e,show FT.v 0=0 from by decide,Nat.zero_mul] at k
  have:=Nat.mul_pos (Nat.pos_of_ne_zero hA) (Nat.two_pow_pos 1074)
  omega
 have eX:Hid (rdW 2 q=FT.wrd true (if l≠0 then T+1 else T)):=by show _=_;unfold rdW;rw[hs,q5U,← hT,← hl];congr 1;simp
 have ic:Hid (rdW 3 q=FT.wrd true T):=by show _=_;unfold rdW;rw[hs,qbQ,← hT,← hl];congr 1;simp
 have fU:Hid (rdW 4 q=FT.wrd true T):=by show _=_;unfold rdW;rw[hs,qbX,← hT]
 have wH:Hid (rdW 1 q=FT.wrd true V):=by show _=_;unfold rdW;rw[hs,hV]
 have mh:V≤2047*2^52:=by rw[hV];exact qbF 1 true hA q.den_nz
 have HF:Hid (∀ W,G w W→Calls Tryz.prog 63 #[u] W (q7z W (FT.wrd true V))):=fun W g=>by
  obtain⟨p,rfl,hp,hr⟩:=hu
  have k:=q4T W p q hq0 hq (G.lt g hp) (hr.G hp g)
  have e:nR q=FT.wrd true V:=by
   show FT.wrd (decide (q.num<0)) (rdV 1 (decide (q.num<0)) q.num.natAbs q.den)=_
   rw[hs,hV]
  rw[e] at k
  exact k
 have gu:Hid (∀ W,G w W→Calls Tryz.prog 19 #[u] W fun e w'=>e= .returned (.int .i64 (-1))∧G W w'):=fun W g=>by
  have k:=q3o W u q (hu.G g)
  rw[qbH hq0,hs] at k
  exact k
 have iA:Hid (∀ W:World,Calls Tryz.prog 64 #[.float .f64 0,.float .f64 13830554455654793216] W fun e w'=>e= .returned (.float .f64 (FT.wrd true 0))∧G W w'):=fun W=>q67 true W
 have hcv:=q8o
 have HI1:Hid (∀ W:World,Calls Tryz.prog 42 #[.float .f64 (FT.wrd true V),.int .i64 1] W fun e w'=>e= .returned (.bool false)∧G W w'):=fun W=>q62 true V W mh
 have HI2:Hid (∀ W:World,Calls Tryz.prog 42 #[.float .f64 (FT.wrd true V),.int .i64 (-1)] W fun e w'=>e= .returned (.bool (decide (V=2047*2^52)))∧G W w'):=fun W=>q6q true V W mh
 have bP:Hid (V<2047*2^52→∀ W,Calls Tryz.prog 10 #[.float .f64 (FT.wrd true V)] W (RetP W (FQ (FT.wrd true V)))):=fun h W=>by
  have hx:=(fq_v true h).2
  have h64:=FT.wrd_lt true V (by omega)
  rw[q5v h64 hx]
  exact q3Z W _ h64 hx
 have bM:Hid (V<2047*2^52→∀ W v,G w W→PR W v (FQ (FT.wrd true V))→_):=fun h W v g hv=>q3i W v u _ q 80 (by omega) (qbc (fq_v true h).2) hq hv (hu.G g)
 have uA:Hid (∀ W:World,Calls Tryz.prog 66 #[.int .i64 (-1)] W fun e w'=>e= .returned (.float .f64 FT.ninf)∧G W w'):=fun W=>q9J W
 have nD:Hid (∀ W:World,Calls Tryz.prog 66 #[.int .i64 1] W fun e w'=>e= .returned (.float .f64 FT.infR)∧G W w'):=fun W=>q8Y 1 W (by omega)
 have fP:Hid True:=trivial
 have mi:True:=trivial
 have hzn:=q0k true (V:=V) (by omega)
 clear hT hl hV hs hA hq0 hw4 hq h0
 go_enter Tryz.func18,Tryz.ntmps18
 go_wp2_with fail
 refine Calls.mono (P:=Tryz.prog) (HF.out w (G.refl _)) ?_
 rintro e wa ⟨xx,rfl,ga⟩
 go_wp2_with fail
 refine Calls.mono (P:=Tryz.prog) (gu.out wa ga) ?_
 rintro e wb ⟨rfl,gb⟩
 by_cases oG:V=0
 ·skip
  rw[decide_eq_true oG] at hzn
  have qV:Hid (V=0):=oG
  clear oG
  go_wp2_with fail
  refine Calls.mono (P:=Tryz.prog) (gu.out wb (by repeat' (first|exact G.refl _|assumption|refine G.alloc ?_ _|refine G.drew ?_ |refine G.drewN ?_ _|(refine G.trans ?_ (by assumption))))) ?_
  rintro e wc ⟨rfl,gc⟩
  go_wp2_with fail
  have uH:Hid (∀ W:World,Calls Tryz.prog 64 #[.float .f64 0,.float .f64 13830554455654793216] W fun e w'=>e= .returned (.float .f64 (FT.wrd true V))∧G W w'):=fun W=>by rw[qV.out];exact iA.out W
  refine Calls.mono (P:=Tryz.prog) (uH.out wc) ?_
  rintro e w2 ⟨rfl,gd⟩
  have g2:G w w2:=(by repeat' (first|exact G.refl _|assumption|refine G.alloc ?_ _|refine G.drew ?_ |refine G.drewN ?_ _|(refine G.trans ?_ (by assumption))))
  clear ga gb gc gd uH
  clear HF
  rcases hm with rfl|hm
  ·go_wp2_with fail
   go_ret
   exact⟨by rw[wH.out];first|done|rfl,g2⟩
  ·have hm1:(m==1)=false:=by simp;omega
   clear hzn qV wH mh
   go_wp2_with fail
   refine Calls.mono (P:=Tryz.prog) (HI1.out w2) ?_
   rintro e w3 ⟨rfl,g3⟩
   by_cases dh:V=2047*2^52
   ·obtain⟨lo,hlo⟩:∃ lo,lo=FT.wrd true V:=⟨_,rfl⟩
    have oN:T+1=V:=by rcases hw2 with h|h<;>omega
    have hl0:l≠0:=hw3 oN.symm
    have HZ1:(FloatKind.f64.format.order 18442240474082181119 0==some .eq)=false:=by decide+kernel
    have HZ2:(FloatKind.f64.format.order lo 0==some .eq)=false:=by rw[hlo,q0k true (by omega)];exact decide_eq_false (by omega)
    have HT1:Hid (FT.wrd true T=18442240474082181119):=by show _=_;rw[show T=2047*2^52-1 from by omega];rfl
    have eH:Hid (rdW 2 q=lo):=by show _=_;rw[eX.out,if_pos hl0,oN,hlo]
    have eG:Hid (rdW 3 q=18442240474082181119):=by show _=_;rw[ic.out,HT1.out]
    have dA:Hid (rdW 4 q=18442240474082181119):=by show _=_;rw[fU.out,HT1.out]
    rw[decide_eq_true dh] at HI2
    rw[← hlo] at HI2 ⊢
    clear hlo oN hl0 dh HT1 hw1 hw2 hw3 bP bM fP eX ic fU
    go_wp2_with fail
    refine Calls.mono (P:=Tryz.prog) (HI2.out w3) ?_
    rintro e w4 ⟨rfl,g4⟩
    clear hm1
    rcases hm with rfl|rfl|rfl
    all_goals
     go_wp2_with (first|(go_at_call 19;refine(gu.out _ (by repeat' (first|exact G.refl _|assumption|refine G.alloc ?_ _|refine G.drew ?_ |refine G.drewN ?_ _|(refine G.trans ?_ (by assumption))))).mono ?_;rintro e wn ⟨rfl,hbn⟩)|(go_at_call 64;refine(iA.out _).mono ?_;rintro e wn ⟨rfl,hbn⟩))
     go_ret
     first|exact⟨by rw[eH.out];first|done|rfl,(by repeat' (first|exact G.refl _|assumption|refine G.alloc ?_ _|refine G.drew ?_ |refine G.drewN ?_ _|(refine G.trans ?_ (by assumption))))⟩|exact⟨by rw[eG.out];first|done|rfl,(by repeat' (first|exact G.refl _|assumption|refine G.alloc ?_ _|refine G.drew ?_ |refine G.drewN ?_ _|(refine G.trans ?_ (by assumption))))⟩|exact⟨by rw[dA.out];first|done|rfl,(by repeat' (first|exact G.refl _|assumption|refine G.alloc ?_ _|refine G.drew ?_ |refine G.drewN ?_ _|(refine G.trans ?_ (by assumption))))⟩
   ·have dI:V<2047*2^52:=by omega
    rw[decide_eq_false dh] at HI2
    go_wp2_with fail
    refine Calls.mono (P:=Tryz.prog) (HI2.out w3) ?_
    rintro e w4 ⟨rfl,g4⟩
    go_wp2_with fail
    refine Calls.mono (P:=Tryz.prog) (bP.out dI w4) ?_
    rintro e w5 ⟨v5,rfl,g5,k5⟩
    have ku:Hid (PR w5 v5 (FQ (FT.wrd true V))):=k5
    clear k5
    go_wp2_with fail
    refine Calls.mono (P:=Tryz.prog) (bM.out dI w5 v5 (by repeat' (first|exact G.refl _|assumption|refine G.alloc ?_ _|refine G.drew ?_ |refine G.drewN ?_ _|(refine G.trans ?_ (by assumption)))) ku.out) ?_
    rintro e w6 ⟨rfl,g6⟩
    have hc6:=(nC.out dI)
    by_cases hl0:l=0
    ·have dx:V=T:=by rcases hw2 with h|h;exact h;exact absurd hl0 (hw3 h)
     rw[if_pos hl0] at hc6
     rw[hc6]
     obtain⟨lo,hlo⟩:∃ lo,lo=FT.wrd true V:=⟨_,rfl⟩
     have hT0:V≠0:=by rw[dx];exact HT0.out hl0
     have HZ1:(FloatKind.f64.format.order lo 0==some .eq)=false:=by rw[hlo,q0k true (by omega)];exact decide_eq_false hT0
     have eH:Hid (rdW 2 q=lo):=by show _=_;rw[eX.out,if_neg (by simpa using hl0),← dx,hlo]
     have eG:Hid (rdW 3 q=lo):=by show _=_;rw[ic.out,← dx,hlo]
     have dA:Hid (rdW 4 q=lo):=by show _=_;rw[fU.out,← dx,hlo]
     rw[← hlo] at bP bM ku ⊢
     have bP:Hid (∀ W,_):=fun W=>bP.out dI W
     have bM:Hid (∀ W v,G w W→PR W v (FQ lo)→Calls Tryz.prog 65 #[v,u] W fun e w'=>e= .returned (.int .i64 0)∧G W w'):=fun W v g h=>by have k:=bM.out dI W v g h;rw[hlo] at k;rw[hc6] at k;exact k
     clear hlo dx hl0 hT0 dh dI hc6 hw1 hw2 hw3 fP eX ic fU nC
     go_wp2_with fail
     refine Calls.mono (P:=Tryz.prog) (bP.out w6) ?_
     rintro e w7 ⟨v7,rfl,g7,k7⟩
     have dH:Hid (PR w7 v7 (FQ lo)):=k7
     clear k7
     go_wp2_with fail
     refine Calls.mono (P:=Tryz.prog) (bM.out w7 v7 (by repeat' (first|exact G.refl _|assumption|refine G.alloc ?_ _|refine G.drew ?_ |refine G.drewN ?_ _|(refine G.trans ?_ (by assumption)))) dH.out) ?_
     rintro e w8 ⟨rfl,g8⟩
     clear hm1
     rcases hm with rfl|rfl|rfl
     all_goals
      go_wp2_with (first|(go_at_call 19;refine(gu.out _ (by repeat' (first|exact G.refl _|assumption|refine G.alloc ?_ _|refine G.drew ?_ |refine G.drewN ?_ _|(refine G.trans ?_ (by assumption))))).mono ?_;rintro e wn ⟨rfl,hbn⟩)|(go_at_call 64;refine(iA.out _).mono ?_;rintro e wn ⟨rfl,hbn⟩))
      go_ret
      first|exact⟨by rw[eH.out];first|done|rfl,(by repeat' (first|exact G.refl _|assumption|refine G.alloc ?_ _|refine G.drew ?_ |refine G.drewN ?_ _|(refine G.trans ?_ (by assumption))))⟩|exact⟨by rw[eG.out];first|done|rfl,(by repeat' (first|exact G.refl _|assumption|refine G.alloc ?_ _|refine G.drew ?_ |refine G.drewN ?_ _|(refine G.trans ?_ (by assumption))))⟩|exact⟨by rw[dA.out];first|done|rfl,(by repeat' (first|exact G.refl _|assumption|refine G.alloc ?_ _|refine G.drew ?_ |refine G.drewN ?_ _|(refine G.trans ?_ (by assumption))))⟩
    ·rw[if_neg hl0] at hc6
     by_cases dx:V=T
     ·skip
      rw[if_pos dx] at hc6
      simp only[if_true] at hc6
      rw[hc6]
      obtain⟨nr,hnr⟩:∃ nr,nr=FT.wrd true V:=⟨_,rfl⟩
      obtain⟨fr,hfr⟩:∃ fr,fr=FT.wrd true (T+1):=⟨_,rfl⟩
      have dm:Hid (FT.wrd true T=nr):=by show _=_;rw[hnr,dx]
      have fM:Hid (FT.wrd true (T+1)=fr):=by show _=_;rw[hfr]
      have AL:(FloatKind.f64.format.order fr 0==some .eq)=false:=by rw[← fM.out,q0k true (by omega)];exact decide_eq_false (by omega)
      have jX:(FloatKind.f64.format.order nr 0==some .eq)=decide (T=0):=by rw[← dm.out,q0k true (by omega)]
      have eH:Hid (rdW 2 q=fr):=by show _=_;rw[eX.out,if_pos hl0,fM.out]
      have eG:Hid (rdW 3 q=nr):=by show _=_;rw[ic.out,dm.out]
      have dA:Hid (rdW 4 q=nr):=by show _=_;rw[fU.out,dm.out]
      have fP:Hid (∀ W,Calls Tryz.prog 39 #[.float .f64 nr,.float .f64 FT.ninf] W fun e w'=>e= .returned (.float .f64 fr)∧G W w'):=fun W=>by
       have k:=q14 nr W (by rw[hnr];exact FT.wrd_lt true _ (by omega))
       have e:q3E nr=fr:=by rw[← dm.out,q6p (V:=T) (by omega)];exact fM.out
       rw[e] at k
       exact k
      rw[← hnr] at bP bM ku ⊢
      have bP:Hid (∀ W,_):=fun W=>bP.out dI W
      have bM:Hid (∀ W v,G w W→PR W v (FQ nr)→Calls Tryz.prog 65 #[v,u] W fun e w'=>e= .returned (.int .i64 1)∧G W w'):=fun W v g h=>by have k:=bM.out dI W v g h;rw[hnr] at k;rw[hc6] at k;exact k
      obtain⟨t0,ht0⟩:∃ t0,t0=decide (T=0):=⟨_,rfl⟩
      rw[← ht0] at jX
      have oO:Hid (t0=true→nr=FT.wrd true 0):=fun h=>by rw[h] at ht0;rw[← dm.out,of_decide_eq_true ht0.symm]
      clear mi ht0 hnr hfr dx hl0 dh dI hc6 hw1 hw2 hw3 eX ic fU nC dm fM
      go_wp2_with fail
      refine Calls.mono (P:=Tryz.prog) (bP.out w6) ?_
      rintro e w7 ⟨v7,rfl,g7,k7⟩
      have dH:Hid (PR w7 v7 (FQ nr)):=k7
      clear k7
      go_wp2_with fail
      refine Calls.mono (P:=Tryz.prog) (bM.out w7 v7 (by repeat' (first|exact G.refl _|assumption|refine G.alloc ?_ _|refine G.drew ?_ |refine G.drewN ?_ _|(refine G.trans ?_ (by assumption)))) dH.out) ?_
      rintro e w8 ⟨rfl,g8⟩
      go_wp2_with fail
      refine Calls.mono (P:=Tryz.prog) (uA.out w8) ?_
      rintro e w9 ⟨rfl,g9⟩
      go_wp2_with fail
      refine Calls.mono (P:=Tryz.prog) (fP.out w9) ?_
      rintro e aU ⟨rfl,g10⟩
      cases t0
      ·skip
       clear hm1
       rcases hm with rfl|rfl|rfl
       all_goals
        go_wp2_with (first|(go_at_call 19;refine(gu.out _ (by repeat' (first|exact G.refl _|assumption|refine G.alloc ?_ _|refine G.drew ?_ |refine G.drewN ?_ _|(refine G.trans ?_ (by assumption))))).mono ?_;rintro e wn ⟨rfl,hbn⟩)|(go_at_call 64;refine(iA.out _).mono ?_;rintro e wn ⟨rfl,hbn⟩))
        go_ret
        first|exact⟨by rw[eH.out];first|done|rfl,(by repeat' (first|exact G.refl _|assumption|refine G.alloc ?_ _|refine G.drew ?_ |refine G.drewN ?_ _|(refine G.trans ?_ (by assumption))))⟩|exact⟨by rw[eG.out];first|done|rfl,(by repeat' (first|exact G.refl _|assumption|refine G.alloc ?_ _|refine G.drew ?_ |refine G.drewN ?_ _|(refine G.trans ?_ (by assumption))))⟩|exact⟨by rw[dA.out];first|done|rfl,(by repeat' (first|exact G.refl _|assumption|refine G.alloc ?_ _|refine G.drew ?_ |refine G.drewN ?_ _|(refine G.trans ?_ (by assumption))))⟩
      ·rw[oO.out rfl] at jX fP eG dA ⊢
       clear hm1
       rcases hm with rfl|rfl|rfl
       all_goals
        go_wp2_with (first|(go_at_call 19;refine(gu.out _ (by repeat' (first|exact G.refl _|assumption|refine G.alloc ?_ _|refine G.drew ?_ |refine G.drewN ?_ _|(refine G.trans ?_ (by assumption))))).mono ?_;rintro e wn ⟨rfl,hbn⟩)|(go_at_call 64;refine(iA.out _).mono ?_;rintro e wn ⟨rfl,hbn⟩))
        go_ret
        first|exact⟨by rw[eH.out];first|done|rfl,(by repeat' (first|exact G.refl _|assumption|refine G.alloc ?_ _|refine G.drew ?_ |refine G.drewN ?_ _|(refine G.trans ?_ (by assumption))))⟩|exact⟨by rw[eG.out];first|done|rfl,(by repeat' (first|exact G.refl _|assumption|refine G.alloc ?_ _|refine G.drew ?_ |refine G.drewN ?_ _|(refine G.trans ?_ (by assumption))))⟩|exact⟨by rw[dA.out];first|done|rfl,(by repeat' (first|exact G.refl _|assumption|refine G.alloc ?_ _|refine G.drew ?_ |refine G.drewN ?_ _|(refine G.trans ?_ (by assumption))))⟩
     ·skip
      rw[if_neg dx] at hc6
      simp only[if_true] at hc6
      rw[hc6]
      have jY:V=T+1:=by rcases hw2 with h|h;exact absurd h dx;exact h
      obtain⟨fr,hfr⟩:∃ fr,fr=FT.wrd true V:=⟨_,rfl⟩
      obtain⟨nr,hnr⟩:∃ nr,nr=FT.wrd true T:=⟨_,rfl⟩
      have dm:Hid (FT.wrd true T=nr):=hnr.symm
      have fM:Hid (FT.wrd true (T+1)=fr):=by show _=_;rw[hfr,jY]
      have AL:(FloatKind.f64.format.order fr 0==some .eq)=false:=by rw[← fM.out,q0k true (by omega)];exact decide_eq_false (by omega)
      have jX:(FloatKind.f64.format.order nr 0==some .eq)=decide (T=0):=by rw[← dm.out,q0k true (by omega)]
      have eH:Hid (rdW 2 q=fr):=by show _=_;rw[eX.out,if_pos hl0,fM.out]
      have eG:Hid (rdW 3 q=nr):=by show _=_;rw[ic.out,dm.out]
      have dA:Hid (rdW 4 q=nr):=by show _=_;rw[fU.out,dm.out]
      have fP:Hid (∀ W,Calls Tryz.prog 39 #[.float .f64 fr,.float .f64 FT.infR] W fun e w'=>e= .returned (.float .f64 nr)∧G W w'):=fun W=>by
       have k:=q0W fr W (by rw[hfr];exact FT.wrd_lt true _ (by omega))
       have e:upV fr=nr:=by rw[← fM.out,q9D (V:=T) (by omega)];exact dm.out
       rw[e] at k
       exact k
      rw[← hfr] at bP bM ku ⊢
      have bP:Hid (∀ W,_):=fun W=>bP.out dI W
      have bM:Hid (∀ W v,G w W→PR W v (FQ fr)→Calls Tryz.prog 65 #[v,u] W fun e w'=>e= .returned (.int .i64 (-1))∧G W w'):=fun W v g h=>by have k:=bM.out dI W v g h;rw[hfr] at k;rw[hc6] at k;exact k
      obtain⟨t0,ht0⟩:∃ t0,t0=decide (T=0):=⟨_,rfl⟩
      rw[← ht0] at jX
      have oO:Hid (t0=true→nr=FT.wrd true 0):=fun h=>by rw[h] at ht0;rw[← dm.out,of_decide_eq_true ht0.symm]
      clear jY mi ht0 hnr hfr dx hl0 dh dI hc6 hw1 hw2 hw3 eX ic fU nC dm fM
      go_wp2_with fail
      refine Calls.mono (P:=Tryz.prog) (nD.out w6) ?_
      rintro e w9 ⟨rfl,g9⟩
      go_wp2_with fail
      refine Calls.mono (P:=Tryz.prog) (fP.out w9) ?_
      rintro e aU ⟨rfl,g10⟩
      cases t0
      ·skip
       clear hm1
       rcases hm with rfl|rfl|rfl
       all_goals
        go_wp2_with (first|(go_at_call 19;refine(gu.out _ (by repeat' (first|exact G.refl _|assumption|refine G.alloc ?_ _|refine G.drew ?_ |refine G.drewN ?_ _|(refine G.trans ?_ (by assumption))))).mono ?_;rintro e wn ⟨rfl,hbn⟩)|(go_at_call 64;refine(iA.out _).mono ?_;rintro e wn ⟨rfl,hbn⟩))
        go_ret
        first|exact⟨by rw[eH.out];first|done|rfl,(by repeat' (first|exact G.refl _|assumption|refine G.alloc ?_ _|refine G.drew ?_ |refine G.drewN ?_ _|(refine G.trans ?_ (by assumption))))⟩|exact⟨by rw[eG.out];first|done|rfl,(by repeat' (first|exact G.refl _|assumption|refine G.alloc ?_ _|refine G.drew ?_ |refine G.drewN ?_ _|(refine G.trans ?_ (by assumption))))⟩|exact⟨by rw[dA.out];first|done|rfl,(by repeat' (first|exact G.refl _|assumption|refine G.alloc ?_ _|refine G.drew ?_ |refine G.drewN ?_ _|(refine G.trans ?_ (by assumption))))⟩
      ·rw[oO.out rfl] at jX fP eG dA ⊢
       clear hm1
       rcases hm with rfl|rfl|rfl
       all_goals
        go_wp2_with (first|(go_at_call 19;refine(gu.out _ (by repeat' (first|exact G.refl _|assumption|refine G.alloc ?_ _|refine G.drew ?_ |refine G.drewN ?_ _|(refine G.trans ?_ (by assumption))))).mono ?_;rintro e wn ⟨rfl,hbn⟩)|(go_at_call 64;refine(iA.out _).mono ?_;rintro e wn ⟨rfl,hbn⟩))
        go_ret
        first|exact⟨by rw[eH.out];first|done|rfl,(by repeat' (first|exact G.refl _|assumption|refine G.alloc ?_ _|refine G.drew ?_ |refine G.drewN ?_ _|(refine G.trans ?_ (by assumption))))⟩|exact⟨by rw[eG.out];first|done|rfl,(by repeat' (first|exact G.refl _|assumption|refine G.alloc ?_ _|refine G.drew ?_ |refine G.drewN ?_ _|(refine G.trans ?_ (by assumption))))⟩|exact⟨by rw[dA.out];first|done|rfl,(by repeat' (first|exact G.refl _|assumption|refine G.alloc ?_ _|refine G.drew ?_ |refine G.drewN ?_ _|(refine G.trans ?_ (by assumption))))⟩
 ·skip
  rw[decide_eq_false oG] at hzn
  have qV:Hid (V≠0):=oG
  clear oG
  skip
  obtain⟨w2,oP⟩:∃ w2,w2=wb:=⟨_,rfl⟩
  rw[← oP]
  have g2:G w w2:=by rw[oP];exact G.trans ga gb
  clear ga gb oP
  clear HF
  rcases hm with rfl|hm
  ·go_wp2_with fail
   go_ret
   exact⟨by rw[wH.out];first|done|rfl,g2⟩
  ·have hm1:(m==1)=false:=by simp;omega
   clear qV wH mh
   go_wp2_with fail
   refine Calls.mono (P:=Tryz.prog) (HI1.out w2) ?_
   rintro e w3 ⟨rfl,g3⟩
   by_cases dh:V=2047*2^52
   ·obtain⟨lo,hlo⟩:∃ lo,lo=FT.wrd true V:=⟨_,rfl⟩
    have oN:T+1=V:=by rcases hw2 with h|h<;>omega
    have hl0:l≠0:=hw3 oN.symm
    have HZ1:(FloatKind.f64.format.order 18442240474082181119 0==some .eq)=false:=by decide+kernel
    have HZ2:(FloatKind.f64.format.order lo 0==some .eq)=false:=by rw[hlo,q0k true (by omega)];exact decide_eq_false (by omega)
    have HT1:Hid (FT.wrd true T=18442240474082181119):=by show _=_;rw[show T=2047*2^52-1 from by omega];rfl
    have eH:Hid (rdW 2 q=lo):=by show _=_;rw[eX.out,if_pos hl0,oN,hlo]
    have eG:Hid (rdW 3 q=18442240474082181119):=by show _=_;rw[ic.out,HT1.out]
    have dA:Hid (rdW 4 q=18442240474082181119):=by show _=_;rw[fU.out,HT1.out]
    rw[decide_eq_true dh] at HI2
    rw[← hlo] at HI2 ⊢
    clear hlo oN hl0 dh HT1 hw1 hw2 hw3 bP bM fP eX ic fU
    go_wp2_with fail
    refine Calls.mono (P:=Tryz.prog) (HI2.out w3) ?_
    rintro e w4 ⟨rfl,g4⟩
    clear hm1
    rcases hm with rfl|rfl|rfl
    all_goals
     go_wp2_with (first|(go_at_call 19;refine(gu.out _ (by repeat' (first|exact G.refl _|assumption|refine G.alloc ?_ _|refine G.drew ?_ |refine G.drewN ?_ _|(refine G.trans ?_ (by assumption))))).mono ?_;rintro e wn ⟨rfl,hbn⟩)|(go_at_call 64;refine(iA.out _).mono ?_;rintro e wn ⟨rfl,hbn⟩))
     go_ret
     first|exact⟨by rw[eH.out];first|done|rfl,(by repeat' (first|exact G.refl _|assumption|refine G.alloc ?_ _|refine G.drew ?_ |refine G.drewN ?_ _|(refine G.trans ?_ (by assumption))))⟩|exact⟨by rw[eG.out];first|done|rfl,(by repeat' (first|exact G.refl _|assumption|refine G.alloc ?_ _|refine G.drew ?_ |refine G.drewN ?_ _|(refine G.trans ?_ (by assumption))))⟩|exact⟨by rw[dA.out];first|done|rfl,(by repeat' (first|exact G.refl _|assumption|refine G.alloc ?_ _|refine G.drew ?_ |refine G.drewN ?_ _|(refine G.trans ?_ (by assumption))))⟩
   ·have dI:V<2047*2^52:=by omega
    rw[decide_eq_false dh] at HI2
    go_wp2_with fail
    refine Calls.mono (P:=Tryz.prog) (HI2.out w3) ?_
    rintro e w4 ⟨rfl,g4⟩
    go_wp2_with fail
    refine Calls.mono (P:=Tryz.prog) (bP.out dI w4) ?_
    rintro e w5 ⟨v5,rfl,g5,k5⟩
    have ku:Hid (PR w5 v5 (FQ (FT.wrd true V))):=k5
    clear k5
    go_wp2_with fail
    refine Calls.mono (P:=Tryz.prog) (bM.out dI w5 v5 (by repeat' (first|exact G.refl _|assumption|refine G.alloc ?_ _|refine G.drew ?_ |refine G.drewN ?_ _|(refine G.trans ?_ (by assumption)))) ku.out) ?_
    rintro e w6 ⟨rfl,g6⟩
    have hc6:=(nC.out dI)
    by_cases hl0:l=0
    ·have dx:V=T:=by rcases hw2 with h|h;exact h;exact absurd hl0 (hw3 h)
     rw[if_pos hl0] at hc6
     rw[hc6]
     obtain⟨lo,hlo⟩:∃ lo,lo=FT.wrd true V:=⟨_,rfl⟩
     have hT0:V≠0:=by rw[dx];exact HT0.out hl0
     have HZ1:(FloatKind.f64.format.order lo 0==some .eq)=false:=by rw[hlo,q0k true (by omega)];exact decide_eq_false hT0
     have eH:Hid (rdW 2 q=lo):=by show _=_;rw[eX.out,if_neg (by simpa using hl0),← dx,hlo]
     have eG:Hid (rdW 3 q=lo):=by show _=_;rw[ic.out,← dx,hlo]
     have dA:Hid (rdW 4 q=lo):=by show _=_;rw[fU.out,← dx,hlo]
     rw[← hlo] at bP bM ku ⊢
     have bP:Hid (∀ W,_):=fun W=>bP.out dI W
     have bM:Hid (∀ W v,G w W→PR W v (FQ lo)→Calls Tryz.prog 65 #[v,u] W fun e w'=>e= .returned (.int .i64 0)∧G W w'):=fun W v g h=>by have k:=bM.out dI W v g h;rw[hlo] at k;rw[hc6] at k;exact k
     clear hlo dx hl0 hT0 dh dI hc6 hw1 hw2 hw3 fP eX ic fU nC
     go_wp2_with fail
     refine Calls.mono (P:=Tryz.prog) (bP.out w6) ?_
     rintro e w7 ⟨v7,rfl,g7,k7⟩
     have dH:Hid (PR w7 v7 (FQ lo)):=k7
     clear k7
     go_wp2_with fail
     refine Calls.mono (P:=Tryz.prog) (bM.out w7 v7 (by repeat' (first|exact G.refl _|assumption|refine G.alloc ?_ _|refine G.drew ?_ |refine G.drewN ?_ _|(refine G.trans ?_ (by assumption)))) dH.out) ?_
     rintro e w8 ⟨rfl,g8⟩
     clear hm1
     rcases hm with rfl|rfl|rfl
     all_goals
      go_wp2_with (first|(go_at_call 19;refine(gu.out _ (by repeat' (first|exact G.refl _|assumption|refine G.alloc ?_ _|refine G.drew ?_ |refine G.drewN ?_ _|(refine G.trans ?_ (by assumption))))).mono ?_;rintro e wn ⟨rfl,hbn⟩)|(go_at_call 64;refine(iA.out _).mono ?_;rintro e wn ⟨rfl,hbn⟩))
      go_ret
      first|exact⟨by rw[eH.out];first|done|rfl,(by repeat' (first|exact G.refl _|assumption|refine G.alloc ?_ _|refine G.drew ?_ |refine G.drewN ?_ _|(refine G.trans ?_ (by assumption))))⟩|exact⟨by rw[eG.out];first|done|rfl,(by repeat' (first|exact G.refl _|assumption|refine G.alloc ?_ _|refine G.drew ?_ |refine G.drewN ?_ _|(refine G.trans ?_ (by assumption))))⟩|exact⟨by rw[dA.out];first|done|rfl,(by repeat' (first|exact G.refl _|assumption|refine G.alloc ?_ _|refine G.drew ?_ |refine G.drewN ?_ _|(refine G.trans ?_ (by assumption))))⟩
    ·rw[if_neg hl0] at hc6
     by_cases dx:V=T
     ·skip
      rw[if_pos dx] at hc6
      simp only[if_true] at hc6
      rw[hc6]
      obtain⟨nr,hnr⟩:∃ nr,nr=FT.wrd true V:=⟨_,rfl⟩
      obtain⟨fr,hfr⟩:∃ fr,fr=FT.wrd true (T+1):=⟨_,rfl⟩
      have dm:Hid (FT.wrd true T=nr):=by show _=_;rw[hnr,dx]
      have fM:Hid (FT.wrd true (T+1)=fr):=by show _=_;rw[hfr]
      have AL:(FloatKind.f64.format.order fr 0==some .eq)=false:=by rw[← fM.out,q0k true (by omega)];exact decide_eq_false (by omega)
      have jX:(FloatKind.f64.format.order nr 0==some .eq)=decide (T=0):=by rw[← dm.out,q0k true (by omega)]
      have eH:Hid (rdW 2 q=fr):=by show _=_;rw[eX.out,if_pos hl0,fM.out]
      have eG:Hid (rdW 3 q=nr):=by show _=_;rw[ic.out,dm.out]
      have dA:Hid (rdW 4 q=nr):=by show _=_;rw[fU.out,dm.out]
      have fP:Hid (∀ W,Calls Tryz.prog 39 #[.float .f64 nr,.float .f64 FT.ninf] W fun e w'=>e= .returned (.float .f64 fr)∧G W w'):=fun W=>by
       have k:=q14 nr W (by rw[hnr];exact FT.wrd_lt true _ (by omega))
       have e:q3E nr=fr:=by rw[← dm.out,q6p (V:=T) (by omega)];exact fM.out
       rw[e] at k
       exact k
      rw[← hnr] at bP bM ku ⊢
      have bP:Hid (∀ W,_):=fun W=>bP.out dI W
      have bM:Hid (∀ W v,G w W→PR W v (FQ nr)→Calls Tryz.prog 65 #[v,u] W fun e w'=>e= .returned (.int .i64 1)∧G W w'):=fun W v g h=>by have k:=bM.out dI W v g h;rw[hnr] at k;rw[hc6] at k;exact k
      obtain⟨t0,ht0⟩:∃ t0,t0=decide (T=0):=⟨_,rfl⟩
      rw[← ht0] at jX
      have oO:Hid (t0=true→nr=FT.wrd true 0):=fun h=>by rw[h] at ht0;rw[← dm.out,of_decide_eq_true ht0.symm]
      clear mi ht0 hnr hfr dx hl0 dh dI hc6 hw1 hw2 hw3 eX ic fU nC dm fM
      go_wp2_with fail
      refine Calls.mono (P:=Tryz.prog) (bP.out w6) ?_
      rintro e w7 ⟨v7,rfl,g7,k7⟩
      have dH:Hid (PR w7 v7 (FQ nr)):=k7
      clear k7
      go_wp2_with fail
      refine Calls.mono (P:=Tryz.prog) (bM.out w7 v7 (by repeat' (first|exact G.refl _|assumption|refine G.alloc ?_ _|refine G.drew ?_ |refine G.drewN ?_ _|(refine G.trans ?_ (by assumption)))) dH.out) ?_
      rintro e w8 ⟨rfl,g8⟩
      go_wp2_with fail
      refine Calls.mono (P:=Tryz.prog) (uA.out w8) ?_
      rintro e w9 ⟨rfl,g9⟩
      go_wp2_with fail
      refine Calls.mono (P:=Tryz.prog) (fP.out w9) ?_
      rintro e aU ⟨rfl,g10⟩
      cases t0
      ·skip
       clear hm1
       rcases hm with rfl|rfl|rfl
       all_goals
        go_wp2_with (first|(go_at_call 19;refine(gu.out _ (by repeat' (first|exact G.refl _|assumption|refine G.alloc ?_ _|refine G.drew ?_ |refine G.drewN ?_ _|(refine G.trans ?_ (by assumption))))).mono ?_;rintro e wn ⟨rfl,hbn⟩)|(go_at_call 64;refine(iA.out _).mono ?_;rintro e wn ⟨rfl,hbn⟩))
        go_ret
        first|exact⟨by rw[eH.out];first|done|rfl,(by repeat' (first|exact G.refl _|assumption|refine G.alloc ?_ _|refine G.drew ?_ |refine G.drewN ?_ _|(refine G.trans ?_ (by assumption))))⟩|exact⟨by rw[eG.out];first|done|rfl,(by repeat' (first|exact G.refl _|assumption|refine G.alloc ?_ _|refine G.drew ?_ |refine G.drewN ?_ _|(refine G.trans ?_ (by assumption))))⟩|exact⟨by rw[dA.out];first|done|rfl,(by repeat' (first|exact G.refl _|assumption|refine G.alloc ?_ _|refine G.drew ?_ |refine G.drewN ?_ _|(refine G.trans ?_ (by assumption))))⟩
      ·rw[oO.out rfl] at jX fP eG dA ⊢
       clear hm1
       rcases hm with rfl|rfl|rfl
       all_goals
        go_wp2_with (first|(go_at_call 19;refine(gu.out _ (by repeat' (first|exact G.refl _|assumption|refine G.alloc ?_ _|refine G.drew ?_ |refine G.drewN ?_ _|(refine G.trans ?_ (by assumption))))).mono ?_;rintro e wn ⟨rfl,hbn⟩)|(go_at_call 64;refine(iA.out _).mono ?_;rintro e wn ⟨rfl,hbn⟩))
        go_ret
        first|exact⟨by rw[eH.out];first|done|rfl,(by repeat' (first|exact G.refl _|assumption|refine G.alloc ?_ _|refine G.drew ?_ |refine G.drewN ?_ _|(refine G.trans ?_ (by assumption))))⟩|exact⟨by rw[eG.out];first|done|rfl,(by repeat' (first|exact G.refl _|assumption|refine G.alloc ?_ _|refine G.drew ?_ |refine G.drewN ?_ _|(refine G.trans ?_ (by assumption))))⟩|exact⟨by rw[dA.out];first|done|rfl,(by repeat' (first|exact G.refl _|assumption|refine G.alloc ?_ _|refine G.drew ?_ |refine G.drewN ?_ _|(refine G.trans ?_ (by assumption))))⟩
     ·skip
      rw[if_neg dx] at hc6
      simp only[if_true] at hc6
      rw[hc6]
      have jY:V=T+1:=by rcases hw2 with h|h;exact absurd h dx;exact h
      obtain⟨fr,hfr⟩:∃ fr,fr=FT.wrd true V:=⟨_,rfl⟩
      obtain⟨nr,hnr⟩:∃ nr,nr=FT.wrd true T:=⟨_,rfl⟩
      have dm:Hid (FT.wrd true T=nr):=hnr.symm
      have fM:Hid (FT.wrd true (T+1)=fr):=by show _=_;rw[hfr,jY]
      have AL:(FloatKind.f64.format.order fr 0==some .eq)=false:=by rw[← fM.out,q0k true (by omega)];exact decide_eq_false (by omega)
      have jX:(FloatKind.f64.format.order nr 0==some .eq)=decide (T=0):=by rw[← dm.out,q0k true (by omega)]
      have eH:Hid (rdW 2 q=fr):=by show _=_;rw[eX.out,if_pos hl0,fM.out]
      have eG:Hid (rdW 3 q=nr):=by show _=_;rw[ic.out,dm.out]
      have dA:Hid (rdW 4 q=nr):=by show _=_;rw[fU.out,dm.out]
      have fP:Hid (∀ W,Calls Tryz.prog 39 #[.float .f64 fr,.float .f64 FT.infR] W fun e w'=>e= .returned (.float .f64 nr)∧G W w'):=fun W=>by
       have k:=q0W fr W (by rw[hfr];exact FT.wrd_lt true _ (by omega))
       have e:upV fr=nr:=by rw[← fM.out,q9D (V:=T) (by omega)];exact dm.out
       rw[e] at k
       exact k
      rw[← hfr] at bP bM ku ⊢
      have bP:Hid (∀ W,_):=fun W=>bP.out dI W
      have bM:Hid (∀ W v,G w W→PR W v (FQ fr)→Calls Tryz.prog 65 #[v,u] W fun e w'=>e= .returned (.int .i64 (-1))∧G W w'):=fun W v g h=>by have k:=bM.out dI W v g h;rw[hfr] at k;rw[hc6] at k;exact k
      obtain⟨t0,ht0⟩:∃ t0,t0=decide (T=0):=⟨_,rfl⟩
      rw[← ht0] at jX
      have oO:Hid (t0=true→nr=FT.wrd true 0):=fun h=>by rw[h] at ht0;rw[← dm.out,of_decide_eq_true ht0.symm]
      clear jY mi ht0 hnr hfr dx hl0 dh dI hc6 hw1 hw2 hw3 eX ic fU nC dm fM
      go_wp2_with fail
      refine Calls.mono (P:=Tryz.prog) (nD.out w6) ?_
      rintro e w9 ⟨rfl,g9⟩
      go_wp2_with fail
      refine Calls.mono (P:=Tryz.prog) (fP.out w9) ?_
      rintro e aU ⟨rfl,g10⟩
      cases t0
      ·skip
       clear hm1
       rcases hm with rfl|rfl|rfl
       all_goals
        go_wp2_with (first|(go_at_call 19;refine(gu.out _ (by repeat' (first|exact G.refl _|assumption|refine G.alloc ?_ _|refine G.drew ?_ |refine G.drewN ?_ _|(refine G.trans ?_ (by assumption))))).mono ?_;rintro e wn ⟨rfl,hbn⟩)|(go_at_call 64;refine(iA.out _).mono ?_;rintro e wn ⟨rfl,hbn⟩))
        go_ret
        first|exact⟨by rw[eH.out];first|done|rfl,(by repeat' (first|exact G.refl _|assumption|refine G.alloc ?_ _|refine G.drew ?_ |refine G.drewN ?_ _|(refine G.trans ?_ (by assumption))))⟩|exact⟨by rw[eG.out];first|done|rfl,(by repeat' (first|exact G.refl _|assumption|refine G.alloc ?_ _|refine G.drew ?_ |refine G.drewN ?_ _|(refine G.trans ?_ (by assumption))))⟩|exact⟨by rw[dA.out];first|done|rfl,(by repeat' (first|exact G.refl _|assumption|refine G.alloc ?_ _|refine G.drew ?_ |refine G.drewN ?_ _|(refine G.trans ?_ (by assumption))))⟩
      ·rw[oO.out rfl] at jX fP eG dA ⊢
       clear hm1
       rcases hm with rfl|rfl|rfl
       all_goals
        go_wp2_with (first|(go_at_call 19;refine(gu.out _ (by repeat' (first|exact G.refl _|assumption|refine G.alloc ?_ _|refine G.drew ?_ |refine G.drewN ?_ _|(refine G.trans ?_ (by assumption))))).mono ?_;rintro e wn ⟨rfl,hbn⟩)|(go_at_call 64;refine(iA.out _).mono ?_;rintro e wn ⟨rfl,hbn⟩))
        go_ret
        first|exact⟨by rw[eH.out];first|done|rfl,(by repeat' (first|exact G.refl _|assumption|refine G.alloc ?_ _|refine G.drew ?_ |refine G.drewN ?_ _|(refine G.trans ?_ (by assumption))))⟩|exact⟨by rw[eG.out];first|done|rfl,(by repeat' (first|exact G.refl _|assumption|refine G.alloc ?_ _|refine G.drew ?_ |refine G.drewN ?_ _|(refine G.trans ?_ (by assumption))))⟩|exact⟨by rw[dA.out];first|done|rfl,(by repeat' (first|exact G.refl _|assumption|refine G.alloc ?_ _|refine G.drew ?_ |refine G.drewN ?_ _|(refine G.trans ?_ (by assumption))))⟩
end Go.Proofs.YtemmkninoiclfaaGreatDoor.EN
