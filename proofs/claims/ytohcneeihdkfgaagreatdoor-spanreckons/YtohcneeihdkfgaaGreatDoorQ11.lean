/- What is proved here: contracts of package exact: how two numbers stand to each other, over this seat's translation.
What is proved here: contracts of the reference's big numbers, rows of words: trim, words, cmp, over this seat's translation.
What is proved here: contracts of the reference's big numbers: add, sub, over this seat's translation.
What is proved here: contracts of the reference's big numbers: sub, over this seat's translation.
What is proved here: contracts of the reference's big numbers: mul, over this seat's translation.
What is proved here: contracts of the reference's big numbers: plain, left, right, small, over this seat's translation.
What is proved here: contracts of the reference's big numbers: right, small, over this seat's translation.
What is proved here: contracts of the reference's big numbers: small, over this seat's translation.
What is proved here: contracts of the reference's big numbers: length, twin, over this seat's translation.
What is proved here: plain facts on the digits of a long division (no program). -/
import Derived.Test.YtohcneeihdkfgaaGreatDoorQ1
import Derived.Test.YtohcneeihdkfgaaGreatDoorQ10
import Derived.Test.YtohcneeihdkfgaaGreatDoorQ3
import Derived.Test.YtohcneeihdkfgaaGreatDoorQ4
namespace Go.Proofs.YtohcneeihdkfgaaGreatDoor.EN
open Go.ChangeShapes Go.WideShapes Go.ChangeAt Go.RowKit
def cmpV (a b:Nat):Int:=if a<b then -1 else if a=b then 0 else 1
def cmpZ (a b:Int):Int:=if a<b then -1 else if a=b then 0 else 1
theorem q1r (x:Int) (w:World):Calls Tryz.prog 242 #[.int .i64 x] w fun e A=>e= .returned (.bool false)∧G w A:=by
 have t:(x != x)=false:=by simp
 go_enter Tryz.func242,Tryz.ntmps242;go_wp2;go_ret;exact⟨rfl,ad _⟩
theorem mi (x y:Int) (w:World):Calls Tryz.prog 176 #[.int .i64 x,.int .i64 y] w fun e C=>e= .returned (.int .i64 (cmpZ x y))∧G w C:=by
 have K:Hid _:=fun x w=>q1r x w;unfold cmpZ;by_cases h1:x<y
 ·rw[if_pos h1];have t1:decide (x<y)=true:=decide_eq_true h1;clear h1;go_enter Tryz.func176,Tryz.ntmps176;go_wp2_with (first|(go_at_call 242;refine(K.out _ _).mono ?_;rintro e B ⟨rfl,A⟩));go_ret;exact⟨rfl,gv⟩
 ·rw[if_neg h1];have t1:decide (x<y)=false:=decide_eq_false h1;by_cases h2:x=y
  ·rw[if_pos h2];have t2:decide (y<x)=false:=decide_eq_false eX;clear h1 h2;go_enter Tryz.func176,Tryz.ntmps176;go_wp2_with (first|(go_at_call 242;refine(K.out _ _).mono ?_;rintro e B ⟨rfl,A⟩));go_ret;exact⟨rfl,gv⟩
  ·rw[if_neg h2];have t2:decide (y<x)=true:=decide_eq_true eX;clear h1 h2;go_enter Tryz.func176,Tryz.ntmps176;go_wp2_with (first|(go_at_call 242;refine(K.out _ _).mono ?_;rintro e B ⟨rfl,A⟩));go_ret;exact⟨rfl,gv⟩
theorem q1s (x:Int) (w:World):Calls Tryz.prog 243 #[.int .u64 x] w fun e A=>e= .returned (.bool false)∧G w A:=by
 have t:(x != x)=false:=by simp
 go_enter Tryz.func243,Tryz.ntmps243;go_wp2;go_ret;exact⟨rfl,ad _⟩
theorem mj (x y:Int) (w:World):Calls Tryz.prog 177 #[.int .u64 x,.int .u64 y] w fun e C=>e= .returned (.int .i64 (cmpZ x y))∧G w C:=by
 have K:Hid _:=fun x w=>q1s x w;unfold cmpZ;by_cases h1:x<y
 ·rw[if_pos h1];have t1:decide (x<y)=true:=decide_eq_true h1;clear h1;go_enter Tryz.func177,Tryz.ntmps177;go_wp2_with (first|(go_at_call 243;refine(K.out _ _).mono ?_;rintro e B ⟨rfl,A⟩));go_ret;exact⟨rfl,gv⟩
 ·rw[if_neg h1];have t1:decide (x<y)=false:=decide_eq_false h1;by_cases h2:x=y
  ·rw[if_pos h2];have t2:decide (y<x)=false:=decide_eq_false eX;clear h1 h2;go_enter Tryz.func177,Tryz.ntmps177;go_wp2_with (first|(go_at_call 243;refine(K.out _ _).mono ?_;rintro e B ⟨rfl,A⟩));go_ret;exact⟨rfl,gv⟩
  ·rw[if_neg h2];have t2:decide (y<x)=true:=decide_eq_true eX;clear h1 h2;go_enter Tryz.func177,Tryz.ntmps177;go_wp2_with (first|(go_at_call 243;refine(K.out _ _).mono ?_;rintro e B ⟨rfl,A⟩));go_ret;exact⟨rfl,gv⟩
theorem jx (w:World) (va vb:Value) (a b K:Nat) (hK:K≤1048576) (ha:Num w va a) (hb:Num w vb b) (s:a<2^(64*K)) (af:b<2^(64*K)):
  Calls Tryz.prog 95 #[va,vb] w fun e w'=>e= .returned (.int .i64 (cmpV a b))∧G w w':=by
 obtain⟨l,hl,Z,rfl⟩:=ha;obtain⟨m,hm,c,rfl⟩:=hb;have bu:=fg Z s;have bv:=fg c af;clear s af;have al:=hl.1;have am:=hm.1;obtain⟨pa,ca,rfl,bm,ap⟩:=fF hl;obtain⟨pb,cb,rfl,bn,bi⟩:=fF hm;have HA:=hi9 ap;have HB:=hi9 bi;clear ap bi hl hm;by_cases d:l.length=m.length
 ·generalize hn:m.length=n at *;have HN:=hi9 d;have HM:=hi9 hn;rw[d];have ds:(n:Int)≤1048576:=by omega
  have ea:((n:Int) != (n:Int))=false:=by simp
  clear d hn bu bv bm bn;go_enter Tryz.func95,Tryz.ntmps95;go_wp2
  go_loopw [5] (fun vk wr=>∃ k:Nat,k≤n∧vk= .int .i64 ((k:Int)-1)∧val (l.drop k)=val (m.drop k)∧G w wr) (fun vk _=>(intOf vk+1).toNat)
  case atStart=>exact⟨n,aI _,rfl,by rw[List.drop_of_length_le (by rw[HN.out];exact aI _),List.drop_of_length_le (by rw[HM.out];exact aI _)],ad _⟩
  case round=>
   obtain⟨k,hk,rfl,hv,O⟩:=hrel;have HV:=hi9 hv;clear hv;cases k with
   |zero=>
    go_wp2;go_ret;have dl:val l=val m:=by have:=HV.out;simpa using this
    exact⟨fU (by unfold cmpV;rw[if_neg eX,if_pos dl]),O⟩
   |succ k=>
    obtain⟨E,i,rfl,X,R⟩:=HA.out k (by rw[HN.out];omega);obtain⟨F,j,rfl,Y,S⟩:=HB.out k eX;have C:=O.cell (p:=⟨E,i+k,none⟩) X R;have D:=O.cell (p:=⟨F,j+k,none⟩) Y S;have M:E<wr.heap.size:=aj X O.size;have N:F<wr.heap.size:=aj Y O.size;clear R S X Y;have I:k<l.length:=by rw[HN.out];omega
    have J:k<m.length:=by rw[HM.out];omega
    have L:=lL al I J HV.out;have ai:=lL am J I HV.out.symm;have ag:l.getD k 0=m.getD k 0→val (l.drop k)=val (m.drop k):=by
     intro h;rw[fD I,fD J,h];show _+2^64*_=_+2^64*_;rw[HV.out]
    generalize l.getD k 0=x at *;generalize m.getD k 0=y at *;have H1:=hi9 L;have H2:=hi9 ai;have H3:=hi9 ag;clear L ai ag I J;by_cases dq:x=y
    ·subst dq;have ht:((x:Int) != x)=false:=by simp
     go_wp2_with fail;refine fq eZ eZ ?_;intro W hW;have bw:=iP (w:=W) ⟨E,i+k,none⟩ (.int .u64 (x:Int));have bz:=iP (w:=W) ⟨F,j+k,none⟩ (.int .u64 (x:Int));clear hW
     repeat (go_big_quiet_step (fail))
     refine wpQuiet_nil ?_;clear bw bz;intro o A;clear C D;go_wp2
     go_roundw
     case rel=>exact⟨k,by omega,by congr 1,H3.out (by trivial),ab O A⟩
     case measure=>simp [intOf]
    ·have ht:((x:Int) != y)=true:=by simp;omega
     by_cases hx:x<y
     ·have bl:(x:Int)<y:=by omega
      go_wp2_with fail;refine fq eZ eZ ?_;intro W hW;have cc:=iP (w:=W) ⟨E,i+k,none⟩ (.int .u64 (x:Int));have cd:=iP (w:=W) ⟨F,j+k,none⟩ (.int .u64 (y:Int));clear hW
      repeat (go_big_quiet_step (fail))
      refine wpQuiet_nil ?_;clear cc cd;intro o A;have bq:=A.cell M C;have bs:=A.cell N D;have cz:E<o.heap.size:=aj M A.size;have di:F<o.heap.size:=aj N A.size;clear C D;go_wp2_with fail;refine fq eZ eZ ?_;intro W hW;have ce:=iP (w:=W) ⟨E,i+k,none⟩ (.int .u64 (x:Int));have ci:=iP (w:=W) ⟨F,j+k,none⟩ (.int .u64 (y:Int));clear hW
      repeat (go_big_quiet_step ((go_at_call 177;exact iC (mj _ _ _))))
      refine wpQuiet_nil ?_;clear ce ci;intro w2 B;go_wp2_with fail;go_ret;have:=H1.out hx;exact⟨fU (by unfold cmpV cmpZ;rw[if_pos this,if_pos bl]),ab (ab O A) B⟩
     ·have bl:¬ (x:Int)<y:=by omega
      go_wp2_with fail;refine fq eZ eZ ?_;intro W hW;have cl:=iP (w:=W) ⟨E,i+k,none⟩ (.int .u64 (x:Int));have cr:=iP (w:=W) ⟨F,j+k,none⟩ (.int .u64 (y:Int));clear hW
      repeat (go_big_quiet_step (fail))
      refine wpQuiet_nil ?_;clear cl cr;intro o A;have bq:=A.cell M C;have bs:=A.cell N D;have cz:E<o.heap.size:=aj M A.size;have di:F<o.heap.size:=aj N A.size;clear C D;go_wp2_with fail;refine fq eZ eZ ?_;intro W hW;have cs:=iP (w:=W) ⟨E,i+k,none⟩ (.int .u64 (x:Int));have an:=iP (w:=W) ⟨F,j+k,none⟩ (.int .u64 (y:Int));clear hW
      repeat (go_big_quiet_step ((go_at_call 177;exact iC (mj _ _ _))))
      refine wpQuiet_nil ?_;clear cs an;intro w2 B;go_wp2_with fail;go_ret;have:=H2.out eX;exact⟨fU (by unfold cmpV cmpZ;rw[if_neg eX,if_neg eX,if_neg eX,if_neg eX]),ab (ab O A) B⟩
 ·have h1:=fun h=>gq Z c h;have h2:=fun h=>gq c Z h;have dr:((l.length:Int) != (m.length:Int))=true:=by simp;omega
  by_cases L:l.length<m.length
  ·have hv:cmpV (val l) (val m)= -1:=by unfold cmpV;rw[if_pos (h1 L)]
   rw[hv];clear h1 h2 hv;generalize l.length=n at *;generalize m.length=k at *;have hz:cmpZ (n:Int) k= -1:=by unfold cmpZ;rw[if_pos eX]
   go_enter Tryz.func95,Tryz.ntmps95;go_wp2_with fail;refine(mi n k _).mono ?_;rintro e w2 ⟨rfl,B⟩;go_wp2_with fail;go_ret;exact⟨fU (by first|rfl|exact hz),B⟩
  ·have U:m.length<l.length:=by omega
   have hv:cmpV (val l) (val m)=1:=by unfold cmpV;rw[if_neg (by have:=h2 U;omega),if_neg (by have:=h2 U;omega)]
   rw[hv];clear h1 h2 hv;generalize l.length=n at *;generalize m.length=k at *;have hz:cmpZ (n:Int) k=1:=by unfold cmpZ;rw[if_neg eX,if_neg eX]
   go_enter Tryz.func95,Tryz.ntmps95;go_wp2_with fail;refine(mi n k _).mono ?_;rintro e w2 ⟨rfl,B⟩;go_wp2_with fail;go_ret;exact⟨fU (by first|rfl|exact hz),B⟩
end Go.Proofs.YtohcneeihdkfgaaGreatDoor.EN
namespace Go.Proofs.YtohcneeihdkfgaaGreatDoor
open Go.ChangeShapes Go.WideShapes Go.ChangeAt Go.RowKit
open BN
theorem Sl.cases {w:World} {v:Value} {l:List Nat} (h:Sl w v l):
  (l=[]∧∃ a c,v= .slice a 0 c)∨(l≠[]∧∃ b o c,v= .slice (some ⟨b,o,none⟩) l.length c∧l.length≤c∧b<w.heap.size∧Row w b o l):=by
 obtain⟨-,h|⟨b,o,c,e,B,hb,C⟩⟩:=h
 ·exact Or.inl h
 ·by_cases A:l=[]
  ·subst A;exact Or.inl ⟨rfl,_,c,e⟩
  ·exact Or.inr ⟨A,b,o,c,e,B,hb,C⟩
theorem kY {l:List Nat} (h:okw l) (k:Nat) (E:k<l.length) (D:l.getD k 0≠0):canon (l.take (k+1)):=by
 refine⟨iM h _,fun C=> ?_⟩;have e:=iH E;have:(l.take (k+1)).getLast C=l.getD k 0:=by
  have:∀ (m:List Nat) (B:m≠[]),m=l.take k++[l.getD k 0]→m.getLast B=l.getD k 0:=by
   intro m B A;subst A;simp
  exact this _ C e
 rw[this];exact D
theorem trim_c (w:World) (v:Value) (l:List Nat) (K:Sl w v l) (m:l.length≤1048576):
  Calls Tryz.prog 236 #[v] w (fo w (val l)):=by
 have F:=K.1;rcases Sl.cases K with ⟨rfl,a,c,rfl⟩|⟨Y,b,o,c,rfl,Z,hb,S⟩
 ·cases a
  all_goals
   go_enter Tryz.func236,Tryz.ntmps236;go_wp2;refine wp_loop_rounds 1 ?_;rw[rounds_succ];go_wp2;go_ret;exact⟨_,rfl,ad _,[],⟨iv,Or.inl ⟨rfl,_,_,rfl⟩⟩,gT,rfl⟩
 ·generalize R:l.length=n at *;have N:=hi9 S;have E:=hi9 R;clear S R K;go_enter Tryz.func236,Tryz.ntmps236;go_wp2
  go_loop [3] (fun M=>∃ k:Nat,k≤n∧M= .int .i64 k∧val (l.take k)=val l) (fun M=>(intOf M).toNat)
  case atStart=>exact⟨n,aI _,rfl,by rw[← E.out,List.take_length]⟩
  case round=>
   obtain⟨k,j,rfl,hv⟩:=hrel;have I:=hi9 hv;clear hv;cases k with
   |zero=>
    go_wp2;go_ret;have L:val l=0:=by rw[← I.out];simp [val]
    exact⟨_,rfl,ad _,[],⟨iv,Or.inl ⟨rfl,_,_,rfl⟩⟩,gT,by rw[L];rfl⟩
   |succ k=>
    have C:=N.out k (by rw[E.out];omega);have D:k<l.length:=by rw[E.out];omega
    have B:=gJ D;have A:=kY F k D;generalize l.getD k 0=d at C B A;by_cases O:d=0
    ·subst O;have W:=hi9 B;clear B A D;go_wp2
     go_round
     case rel=>exact⟨k,by omega,by go_num,by rw[← I.out,W.out];simp⟩
     case measure=>simp [intOf]
    ·have X:((d:Int)==0)=false:=by simp;omega
     have U:=hi9 A;clear B A;go_wp2;go_ret;refine⟨_,rfl,ad _,l.take (k+1),⟨iM F _,Or.inr ⟨b,o,c,?_,?_,hb,fun i hi=> ?_⟩⟩,U.out O,I.out⟩
     ·rw[bD,E.out,ck eX];simp
     ·rw[bD];omega
     ·have J:i<k+1:=by rw[bD] at hi;omega
      have:=N.out i (by rw[E.out];omega);rw[this]
      congr 3
      rw[ak,ak,eQ J]
theorem q6y (w:World) (d0 d1:Nat) (e:TypeId) (B:d0<2^32) (h1:d1<2^32):
  Sl (w.alloc (.cells #[.int .u32 (d0:Int),.int .u32 (d1:Int)] e)) (.slice (some ⟨w.heap.size,0,none⟩) 2 2) [d0,d1]:=by
 refine⟨fun d A=> ?_,Or.inr ⟨w.heap.size,0,2,rfl,aI _,by simp,fun i hi=> ?_⟩⟩
 ·simp at A;rcases A with rfl|rfl<;>assumption
 ·rw[aK,World.cell?_alloc_at _ _ _ _ rfl];have:i=0∨i=1:=by simp at hi;omega
  rcases this with rfl|rfl<;>rfl
theorem kU (w:World) (x:Nat) (I:x<2^64):
  Calls Tryz.prog 196 #[.int .u64 x] w (fo w x):=by
 have D:IntKind.u32.wrap (x:Int)=((x%2^32:Nat):Int):=by rw[IntKind.wrap_u32];omega
 have E:IntKind.u32.wrap ((x:Int)/4294967296)=((x/2^32:Nat):Int):=by rw[IntKind.wrap_u32];omega
 have hv:val [x%2^32,x/2^32]=x:=by simp [val];omega
 have C:Hid _:=fun w=>trim_c _ _ _ (q6y w (x%2^32) (x/2^32) 182 eX eX) fX;rw[hv] at C;generalize x%2^32=d0 at *;generalize x/2^32=d1 at *;clear hv;go_enter Tryz.func196,Tryz.ntmps196;go_wp2_with fail;refine(C.out w).mono ?_;rintro e J ⟨F,rfl,A,B⟩;go_wp2;go_ret;exact⟨F,rfl,ab ((ad _).alloc _) A,B⟩
def cmpV (a b:Nat):Int:=if a<b then -1 else if a=b then 0 else 1
/-- The cells of a slice, in a form that serves the empty one too. -/
theorem fF {w:World} {v:Value} {l:List Nat} (h:Sl w v l):∃ a c,v= .slice a l.length c∧l.length≤c∧∀ i,i<l.length→∃ b o,a=some ⟨b,o,none⟩∧b<w.heap.size∧w.cell? ⟨b,o+i,none⟩=some (.int .u32 (l.getD i 0:Nat)):=by
 rcases Sl.cases h with ⟨rfl,a,c,rfl⟩|⟨B,b,o,c,rfl,A,hb,C⟩
 ·exact⟨a,c,rfl,bU _,fun i hi=>by simp at hi⟩
 ·exact⟨_,c,rfl,A,fun i hi=>⟨b,o,rfl,hb,C i hi⟩⟩
theorem jx (w:World) (va vb:Value) (a b K:Nat) (hK:K≤1048576) (ha:Num w va a) (hb:Num w vb b) (s:a<2^(32*K)) (af:b<2^(32*K)):
  Calls Tryz.prog 170 #[va,vb] w fun e w'=>e= .returned (.int .i64 (cmpV a b))∧G w w':=by
 obtain⟨l,hl,Y,rfl⟩:=ha;obtain⟨m,hm,Z,rfl⟩:=hb;have bu:=fg Y s;have bv:=fg Z af;clear s af;have am:=hl.1;have an:=hm.1;obtain⟨pa,ca,rfl,bm,bi⟩:=fF hl;obtain⟨pb,cb,rfl,bn,bl⟩:=fF hm;have HA:=hi9 bi;have HB:=hi9 bl;clear bi bl hl hm;by_cases c:l.length=m.length
 ·generalize hn:m.length=n at *;have HN:=hi9 c;have HM:=hi9 hn;rw[c];have ea:(n:Int)≤1048576:=by omega
  have eb:((n:Int) != (n:Int))=false:=by simp
  clear c hn bu bv bm bn;go_enter Tryz.func170,Tryz.ntmps170;go_wp2
  go_loopw [5] (fun vk wr=>∃ k:Nat,k≤n∧vk= .int .i64 ((k:Int)-1)∧val (l.drop k)=val (m.drop k)∧G w wr) (fun vk _=>(intOf vk+1).toNat)
  case atStart=>exact⟨n,aI _,rfl,by rw[List.drop_of_length_le (by rw[HN.out];exact aI _),List.drop_of_length_le (by rw[HM.out];exact aI _)],ad _⟩
  case round=>
   obtain⟨k,hk,rfl,hv,N⟩:=hrel;have HV:=hi9 hv;clear hv;cases k with
   |zero=>
    go_wp2;go_ret;have dl:val l=val m:=by have:=HV.out;simpa using this
    exact⟨fU (by unfold cmpV;rw[if_neg eX,if_pos dl]),N⟩
   |succ k=>
    obtain⟨D,i,rfl,U,O⟩:=HA.out k (by rw[HN.out];omega);obtain⟨E,j,rfl,X,R⟩:=HB.out k eX;have B:=N.cell (p:=⟨D,i+k,none⟩) U O;have C:=N.cell (p:=⟨E,j+k,none⟩) X R;have L:D<wr.heap.size:=aj U N.size;have M:E<wr.heap.size:=aj X N.size;clear O R U X;have F:k<l.length:=by rw[HN.out];omega
    have I:k<m.length:=by rw[HM.out];omega
    have J:=lL am F I HV.out;have ai:=lL an I F HV.out.symm;have ag:l.getD k 0=m.getD k 0→val (l.drop k)=val (m.drop k):=by
     intro h;rw[fD F,fD I,h];show _+2^32*_=_+2^32*_;rw[HV.out]
    generalize l.getD k 0=x at *;generalize m.getD k 0=y at *;have H1:=hi9 J;have H2:=hi9 ai;have H3:=hi9 ag;clear J ai ag F I;by_cases dr:x=y
    ·subst dr;have ht:((x:Int) != x)=false:=by simp
     go_wp2_with fail;refine fq eZ eZ ?_;intro W hW;have bw:=iP (w:=W) ⟨D,i+k,none⟩ (.int .u32 (x:Int));have bz:=iP (w:=W) ⟨E,j+k,none⟩ (.int .u32 (x:Int));clear hW
     repeat (go_big_quiet_step (fail))
     refine wpQuiet_nil ?_;clear bw bz;intro o A;clear B C;go_wp2
     go_roundw
     case rel=>exact⟨k,by omega,by congr 1,H3.out (by trivial),ab N A⟩
     case measure=>simp [intOf]
    ·have ht:((x:Int) != y)=true:=by simp;omega
     by_cases hx:x<y
     ·have dq:(x:Int)<y:=by omega
      go_wp2_with fail;refine fq eZ eZ ?_;intro W hW;have cc:=iP (w:=W) ⟨D,i+k,none⟩ (.int .u32 (x:Int));have cd:=iP (w:=W) ⟨E,j+k,none⟩ (.int .u32 (y:Int));clear hW
      repeat (go_big_quiet_step (fail))
      refine wpQuiet_nil ?_;clear cc cd;intro o A;have bq:=A.cell L B;have bs:=A.cell M C;have cz:D<o.heap.size:=aj L A.size;have di:E<o.heap.size:=aj M A.size;clear B C;go_wp2_with fail;refine fq eZ eZ ?_;intro W hW;have ce:=iP (w:=W) ⟨D,i+k,none⟩ (.int .u32 (x:Int));have ci:=iP (w:=W) ⟨E,j+k,none⟩ (.int .u32 (y:Int));clear hW
      repeat (go_big_quiet_step (fail))
      refine wpQuiet_nil ?_;clear ce ci;intro w2 d;go_wp2;go_ret;have:=H1.out hx;exact⟨fU (by unfold cmpV;rw[if_pos this]),ab (ab N A) d⟩
     ·have dq:¬ (x:Int)<y:=by omega
      go_wp2_with fail;refine fq eZ eZ ?_;intro W hW;have cl:=iP (w:=W) ⟨D,i+k,none⟩ (.int .u32 (x:Int));have cr:=iP (w:=W) ⟨E,j+k,none⟩ (.int .u32 (y:Int));clear hW
      repeat (go_big_quiet_step (fail))
      refine wpQuiet_nil ?_;clear cl cr;intro o A;have bq:=A.cell L B;have bs:=A.cell M C;have cz:D<o.heap.size:=aj L A.size;have di:E<o.heap.size:=aj M A.size;clear B C;go_wp2_with fail;refine fq eZ eZ ?_;intro W hW;have cs:=iP (w:=W) ⟨D,i+k,none⟩ (.int .u32 (x:Int));have ap:=iP (w:=W) ⟨E,j+k,none⟩ (.int .u32 (y:Int));clear hW
      repeat (go_big_quiet_step (fail))
      refine wpQuiet_nil ?_;clear cs ap;intro w2 d;go_wp2;go_ret;have:=H2.out eX;exact⟨fU (by unfold cmpV;rw[if_neg eX,if_neg eX]),ab (ab N A) d⟩
 ·have h1:=fun h=>gq Y Z h;have h2:=fun h=>gq Z Y h;have ds:((l.length:Int) != (m.length:Int))=true:=by simp;omega
  by_cases J:l.length<m.length
  ·have hv:cmpV (val l) (val m)= -1:=by unfold cmpV;rw[if_pos (h1 J)]
   rw[hv];clear h1 h2 hv;generalize l.length=n at *;generalize m.length=k at *;have al:(n:Int)<k:=by omega
   go_enter Tryz.func170,Tryz.ntmps170;go_wp2;go_ret;exact⟨rfl,ad _⟩
  ·have S:m.length<l.length:=by omega
   have hv:cmpV (val l) (val m)=1:=by unfold cmpV;rw[if_neg (by have:=h2 S;omega),if_neg (by have:=h2 S;omega)]
   rw[hv];clear h1 h2 hv;generalize l.length=n at *;generalize m.length=k at *;have al:¬ (n:Int)<k:=by omega
   go_enter Tryz.func170,Tryz.ntmps170;go_wp2;go_ret;exact⟨rfl,ad _⟩
theorem q0I:(Tryz.prog.info? 182).map (fun i=>(i.zero,i.size,i.bytes))=some (some (.int .u32 0),1,4):=by kernel_rfl
/-- 'make([]uint32, n)', in every world. -/
theorem gV (n:Nat) (A:n≤2097152) (w:World):(Instr.makeSlice 41 (.int .i64 (n:Int)) (.int .i64 (n:Int))).run Tryz.prog w= .ok (.slice (some ⟨w.heap.size,0,none⟩) n n) (w.alloc (.cells (madeCells #[.int .u32 0] n) 182)):=
 run_make_row' 41 182 (.int .u32 0) 4 Tryz.underlying41 q0I rfl .i64 .i64 n eX eX w
/-- One step of a sum. -/
theorem qu {cs l m:List Nat} {k c n:Nat} (E:k<n) (A:cs.length=n+1) (B:okw l) (C:okw m) (D:c≤1)
  (h:val (cs.take k)+2^(32*k)*c=val (l.take k)+val (m.take k)):
  (c+l.getD k 0+m.getD k 0)/2^32≤1∧
  val ((cs.set k ((c+l.getD k 0+m.getD k 0)%2^32)).take (k+1))+2^(32*(k+1))*((c+l.getD k 0+m.getD k 0)/2^32)=val (l.take (k+1))+val (m.take (k+1)):=by
 have h1:=ff B k;have h2:=ff C k;rw[fK eX,fi l,fi m];generalize l.getD k 0=x at *;generalize m.getD k 0=y at *;refine⟨by omega,?_⟩;rw[show 32*(k+1)=32*k+32 from by omega,ah,ar,cM,← aE];have:(c+x+y)%2^32+2^32*((c+x+y)/2^32)=c+x+y:=Nat.mod_add_div _ _;rw[this,aE,aE];omega
/-- A row of our own, trimmed. -/
theorem gi {w:World} {b n:Nat} {cs:List Nat} (h:Own w b cs) (A:cs.length=n) (B:n≤1048576):
  Calls Tryz.prog 236 #[.slice (some ⟨b,0,none⟩) n n] w (fo w (val cs)):=by
 subst A;exact trim_c _ _ _ (h.sl _ (aI _)) B
theorem qt (w:World) (va vb:Value) (l m:List Nat) (swap:Bool) (hl:Sl w va l) (hm:Sl w vb m) (bq:m.length≤l.length) (bv:l.length≤1048000) (bm:swap=true→m.length<l.length):
  Calls Tryz.prog 195 (if swap then #[vb,va] else #[va,vb]) w (fo w (val l+val m)):=by
 have I:=hl.1;have J:=hm.1;obtain⟨pa,ca,rfl,bs,al⟩:=fF hl;obtain⟨pb,cb,rfl,bu,am⟩:=fF hm;have HA:=hi9 al;have HB:=hi9 am;clear al am hl hm;generalize hn:l.length=n at *;generalize hj:m.length=j at *;have HN:=hi9 hn;have HJ:=hi9 hj;clear hn hj;have bl:=gV (n+1) eX;rw[show ((n+1:Nat):Int)=(n:Int)+1 from by omega] at bl;cases swap
 ·show Calls Tryz.prog 195 #[_,_] w _;have t0:¬ (n:Int)<j:=by omega
  go_enter Tryz.func195,Tryz.ntmps195;go_wp2_with fail
  go_loopw [6,7] (fun vc vk wr=>∃ (k c:Nat) (cs:List Nat),k≤n∧vk= .int .i64 k∧vc= .int .u64 c∧c≤1∧cs.length=n+1∧Own wr w.heap.size cs∧val (cs.take k)+2^(32*k)*c=val (l.take k)+val (m.take k)∧G w wr) (fun _ vk _=>n-(intOf vk).toNat)
  case atStart=>exact⟨0,0,List.replicate (n+1) 0,bU _,rfl,rfl,by omega,by simp,gh w (n+1) 182,by simp [val],(ad _).alloc _⟩
  case round=>
   obtain⟨k,c,cs,hk,rfl,rfl,hc,N,D,E,M⟩:=hrel;have HV:=hi9 E;have A:=hi9 N;have F:=hi9 D;clear E N D;have bi:(c:Int)≤1:=by omega
   by_cases O:k<n
   ·obtain⟨b1,o1,rfl,K,B⟩:=HA.out k O;have an:=M.cell (p:=⟨b1,o1+k,none⟩) K B;clear B K;obtain⟨U,W⟩:=qu O A.out I J hc HV.out;have Y:=hi9 U;have Z:=hi9 W;clear U W;have hx:=ff I k;have hy:=ff J k;have ho:=Own.cell (w:=wr) (b:=w.heap.size) (l:=cs) (i:=k) F.out (by rw[A.out];omega);have hf:=Own.frozen (w:=wr) (b:=w.heap.size) (l:=cs) (i:=k) F.out (by rw[A.out];omega);have bn:((l.getD k 0:Nat):Int)≤4294967295:=by omega
    have ai:((m.getD k 0:Nat):Int)≤4294967295:=by omega
    by_cases s:k<j
    ·obtain⟨b2,o2,rfl,L,C⟩:=HB.out k s;have ap:=M.cell (p:=⟨b2,o2+k,none⟩) L C;clear C L;generalize l.getD k 0=x at *;generalize m.getD k 0=y at *;generalize cs.getD k 0=z at *;have hw:IntKind.u32.wrap ((c:Int)+x+y)=(((c+x+y)%2^32:Nat):Int):=by rw[IntKind.wrap_u32];omega
     have ag:((c:Int)+x+y)/4294967296=(((c+x+y)/2^32:Nat):Int):=by omega
     have R:(c+x+y)%2^32<2^32:=by omega
     clear hx hy;generalize (c+x+y)%2^32=r at *;generalize (c+x+y)/2^32=q at *;have X:=hi9 R;clear R;go_wp2_with fail
     go_roundw
     case rel=>exact⟨k+1,q,cs.set k r,by omega,by go_num,rfl,Y.out,by rw[aF];exact A.out,Own.set F.out k r (by rw[A.out];omega) X.out,Z.out,M.setCell (aI _) _⟩
     case measure=>simp only[intOf];omega
    ·have S:m.getD k 0=0:=by rw[ak,bo (by rw[HJ.out];omega)];rfl
     rw[S] at Y Z;clear hy ai S;generalize l.getD k 0=x at *;generalize cs.getD k 0=z at *;have hw:IntKind.u32.wrap ((c:Int)+x)=(((c+x+0)%2^32:Nat):Int):=by rw[IntKind.wrap_u32];omega
     have ag:((c:Int)+x)/4294967296=(((c+x+0)/2^32:Nat):Int):=by omega
     have R:(c+x+0)%2^32<2^32:=by omega
     clear hx;generalize (c+x+0)%2^32=r at *;generalize (c+x+0)/2^32=q at *;have X:=hi9 R;clear R;go_wp2_with fail
     go_roundw
     case rel=>exact⟨k+1,q,cs.set k r,by omega,by go_num,rfl,Y.out,by rw[aF];exact A.out,Own.set F.out k r (by rw[A.out];omega) X.out,Z.out,M.setCell (aI _) _⟩
     case measure=>simp only[intOf];omega
   ·obtain rfl:k=n:=by omega
    have ho:=Own.cell (w:=wr) (b:=w.heap.size) (l:=cs) (i:=k) F.out (by rw[A.out];omega);have hf:=Own.frozen (w:=wr) (b:=w.heap.size) (l:=cs) (i:=k) F.out (by rw[A.out];omega);generalize cs.getD k 0=z at *;have hw:IntKind.u32.wrap (c:Int)=(c:Int):=by rw[IntKind.wrap_u32];omega
    have U:Own _ w.heap.size (cs.set k c):=Own.set (F.out:Own wr w.heap.size cs) k c (by rw[A.out];omega) eX;have W:val (cs.set k c)=val l+val m:=by
     have h1:=fK (l:=cs) (k:=k) (x:=c) (by rw[A.out];omega);rw[aH (by rw[aF,A.out];omega)] at h1;rw[h1,HV.out,aH (by rw[HN.out];omega),aH (by rw[HJ.out];omega)]
    have hT:Hid _:=gi U (n:=k+1) (by rw[aF];exact A.out) eX;rw[W] at hT;have d:=M.setCell (p:=⟨w.heap.size,k,none⟩) (aI _) (.int .u32 (c:Int));clear U W;go_wp2_with fail;refine Calls.mono (P:=Tryz.prog) hT.out ?_;rintro e w1 ⟨v1,rfl,o,af⟩;go_wp2_with fail;go_ret;exact⟨v1,rfl,ab d o,af⟩
 ·show Calls Tryz.prog 195 #[_,_] w _;have t0:(j:Int)<n:=by have:=bm rfl;omega
  go_enter Tryz.func195,Tryz.ntmps195;go_wp2_with fail
  go_loopw [6,7] (fun vc vk wr=>∃ (k c:Nat) (cs:List Nat),k≤n∧vk= .int .i64 k∧vc= .int .u64 c∧c≤1∧cs.length=n+1∧Own wr w.heap.size cs∧val (cs.take k)+2^(32*k)*c=val (l.take k)+val (m.take k)∧G w wr) (fun _ vk _=>n-(intOf vk).toNat)
  case atStart=>exact⟨0,0,List.replicate (n+1) 0,bU _,rfl,rfl,by omega,by simp,gh w (n+1) 182,by simp [val],(ad _).alloc _⟩
  case round=>
   obtain⟨k,c,cs,hk,rfl,rfl,hc,N,D,E,M⟩:=hrel;have HV:=hi9 E;have A:=hi9 N;have F:=hi9 D;clear E N D;have bi:(c:Int)≤1:=by omega
   by_cases O:k<n
   ·obtain⟨b1,o1,rfl,K,B⟩:=HA.out k O;have an:=M.cell (p:=⟨b1,o1+k,none⟩) K B;clear B K;obtain⟨U,W⟩:=qu O A.out I J hc HV.out;have Y:=hi9 U;have Z:=hi9 W;clear U W;have hx:=ff I k;have hy:=ff J k;have ho:=Own.cell (w:=wr) (b:=w.heap.size) (l:=cs) (i:=k) F.out (by rw[A.out];omega);have hf:=Own.frozen (w:=wr) (b:=w.heap.size) (l:=cs) (i:=k) F.out (by rw[A.out];omega);have bn:((l.getD k 0:Nat):Int)≤4294967295:=by omega
    have ai:((m.getD k 0:Nat):Int)≤4294967295:=by omega
    by_cases s:k<j
    ·obtain⟨b2,o2,rfl,L,C⟩:=HB.out k s;have ap:=M.cell (p:=⟨b2,o2+k,none⟩) L C;clear C L;generalize l.getD k 0=x at *;generalize m.getD k 0=y at *;generalize cs.getD k 0=z at *;have hw:IntKind.u32.wrap ((c:Int)+x+y)=(((c+x+y)%2^32:Nat):Int):=by rw[IntKind.wrap_u32];omega
     have ag:((c:Int)+x+y)/4294967296=(((c+x+y)/2^32:Nat):Int):=by omega
     have R:(c+x+y)%2^32<2^32:=by omega
     clear hx hy;generalize (c+x+y)%2^32=r at *;generalize (c+x+y)/2^32=q at *;have X:=hi9 R;clear R;go_wp2_with fail
     go_roundw
     case rel=>exact⟨k+1,q,cs.set k r,by omega,by go_num,rfl,Y.out,by rw[aF];exact A.out,Own.set F.out k r (by rw[A.out];omega) X.out,Z.out,M.setCell (aI _) _⟩
     case measure=>simp only[intOf];omega
    ·have S:m.getD k 0=0:=by rw[ak,bo (by rw[HJ.out];omega)];rfl
     rw[S] at Y Z;clear hy ai S;generalize l.getD k 0=x at *;generalize cs.getD k 0=z at *;have hw:IntKind.u32.wrap ((c:Int)+x)=(((c+x+0)%2^32:Nat):Int):=by rw[IntKind.wrap_u32];omega
     have ag:((c:Int)+x)/4294967296=(((c+x+0)/2^32:Nat):Int):=by omega
     have R:(c+x+0)%2^32<2^32:=by omega
     clear hx;generalize (c+x+0)%2^32=r at *;generalize (c+x+0)/2^32=q at *;have X:=hi9 R;clear R;go_wp2_with fail
     go_roundw
     case rel=>exact⟨k+1,q,cs.set k r,by omega,by go_num,rfl,Y.out,by rw[aF];exact A.out,Own.set F.out k r (by rw[A.out];omega) X.out,Z.out,M.setCell (aI _) _⟩
     case measure=>simp only[intOf];omega
   ·obtain rfl:k=n:=by omega
    have ho:=Own.cell (w:=wr) (b:=w.heap.size) (l:=cs) (i:=k) F.out (by rw[A.out];omega);have hf:=Own.frozen (w:=wr) (b:=w.heap.size) (l:=cs) (i:=k) F.out (by rw[A.out];omega);generalize cs.getD k 0=z at *;have hw:IntKind.u32.wrap (c:Int)=(c:Int):=by rw[IntKind.wrap_u32];omega
    have U:Own _ w.heap.size (cs.set k c):=Own.set (F.out:Own wr w.heap.size cs) k c (by rw[A.out];omega) eX;have W:val (cs.set k c)=val l+val m:=by
     have h1:=fK (l:=cs) (k:=k) (x:=c) (by rw[A.out];omega);rw[aH (by rw[aF,A.out];omega)] at h1;rw[h1,HV.out,aH (by rw[HN.out];omega),aH (by rw[HJ.out];omega)]
    have hT:Hid _:=gi U (n:=k+1) (by rw[aF];exact A.out) eX;rw[W] at hT;have d:=M.setCell (p:=⟨w.heap.size,k,none⟩) (aI _) (.int .u32 (c:Int));clear U W;go_wp2_with fail;refine Calls.mono (P:=Tryz.prog) hT.out ?_;rintro e w1 ⟨v1,rfl,o,af⟩;go_wp2_with fail;go_ret;exact⟨v1,rfl,ab d o,af⟩
theorem q6L (w:World) (va vb:Value) (a b K:Nat) (M:K≤1048000) (I:Num w va a) (hb:Num w vb b) (A:a<2^(32*K)) (B:b<2^(32*K)):
  Calls Tryz.prog 195 #[va,vb] w (fo w (a+b)):=by
 obtain⟨l,E,C,rfl⟩:=I;obtain⟨m,F,D,rfl⟩:=hb;have J:=fg C A;have L:=fg D B;by_cases h:m.length≤l.length
 ·exact qt w va vb l m false E F h eX fX
 ·rw[cR];exact qt w vb va m l true F E eX eX (fun _=>by omega)
theorem q70 (x c:Nat) (B:x<2^32) (A:c≤1):∃ d r q:Nat,IntKind.u64.wrap ((x:Int)-c)=d∧IntKind.u32.wrap (d:Int)=r∧(d:Int)/9223372036854775808=q∧q≤1∧r<2^32∧x+2^32*q=c+r:=by
 refine⟨(x+2^64-c)%2^64,(x+2^64-c)%2^64%2^32,(x+2^64-c)%2^64/2^63,?_,?_,?_,?_,?_,?_⟩
 ·rw[IntKind.wrap_u64];omega
 ·rw[IntKind.wrap_u32];omega
 all_goals omega
theorem q6D (x c y:Nat) (B:x<2^32) (C:y<2^32) (A:c≤1):∃ d0 d r q:Nat,IntKind.u64.wrap ((x:Int)-c)=d0∧IntKind.u64.wrap ((d0:Int)-y)=d∧IntKind.u32.wrap (d:Int)=r∧(d:Int)/9223372036854775808=q∧q≤1∧r<2^32∧x+2^32*q=c+r+y:=by
 refine⟨(x+2^64-c)%2^64,((x+2^64-c)%2^64+2^64-y)%2^64,((x+2^64-c)%2^64+2^64-y)%2^64%2^32,((x+2^64-c)%2^64+2^64-y)%2^64/2^63,?_,?_,?_,?_,?_,?_,?_⟩
 ·rw[IntKind.wrap_u64];omega
 ·rw[IntKind.wrap_u64];omega
 ·rw[IntKind.wrap_u32];omega
 all_goals omega
/-- One step of a difference. -/
theorem rP {cs l m:List Nat} {k c n r q:Nat} (C:k<n) (A:cs.length=n)
  (h:val (l.take k)+2^(32*k)*c=val (cs.take k)+val (m.take k)) (B:l.getD k 0+2^32*q=c+r+m.getD k 0):
  val (l.take (k+1))+2^(32*(k+1))*q=val ((cs.set k r).take (k+1))+val (m.take (k+1)):=by
 rw[fK eX,fi l,fi m];generalize l.getD k 0=x at *;generalize m.getD k 0=y at *;rw[show 32*(k+1)=32*k+32 from by omega,ah,ar,cM,← aE,B,aE,aE];omega
theorem q5E (w:World) (va vb:Value) (a b K:Nat) (hK:K≤1048000) (ha:Num w va a) (hb:Num w vb b) (N:a<2^(32*K)) (O:b≤a):
  Calls Tryz.prog 235 #[va,vb] w (fo w (a-b)):=by
 obtain⟨l,hl,R,rfl⟩:=ha;obtain⟨m,hm,ai,rfl⟩:=hb;have bv:=fg R N;have bl:m.length≤l.length:=by
  by_cases h:m.length≤l.length
  ·exact h
  ·have:=gq R ai eX;omega
 clear N;have W:=hl.1;have X:=hm.1;obtain⟨pa,ca,rfl,bq,Z⟩:=fF hl;obtain⟨pb,cb,rfl,bs,o⟩:=fF hm;have HA:=hi9 Z;have HB:=hi9 o;clear Z o hl hm;generalize hn:l.length=n at *;generalize hj:m.length=j at *;have HN:=hi9 hn;have HJ:=hi9 hj;have af:=hi9 O;clear hn hj O;have bw:=gV n eX;go_enter Tryz.func235,Tryz.ntmps235;go_wp2_with fail
 go_loopw [6,7] (fun vc vk wr=>∃ (k c:Nat) (cs:List Nat),k≤n∧vk= .int .i64 k∧vc= .int .u64 c∧c≤1∧cs.length=n∧Own wr w.heap.size cs∧val (l.take k)+2^(32*k)*c=val (cs.take k)+val (m.take k)∧G w wr) (fun _ vk _=>n-(intOf vk).toNat)
 case atStart=>exact⟨0,0,List.replicate n 0,bU _,rfl,rfl,by omega,by simp,gh w n 182,by simp [val],(ad _).alloc _⟩
 case round=>
  obtain⟨k,c,cs,hk,rfl,rfl,hc,S,D,E,M⟩:=hrel;have HV:=hi9 E;have A:=hi9 S;have I:=hi9 D;clear E S D;by_cases F:k<n
  ·obtain⟨b1,o1,rfl,J,B⟩:=HA.out k F;have bm:=M.cell (p:=⟨b1,o1+k,none⟩) J B;clear B J;have hx:=ff W k;have hy:=ff X k;have ho:=Own.cell (w:=wr) (b:=w.heap.size) (l:=cs) (i:=k) I.out (by rw[A.out];omega);have hf:=Own.frozen (w:=wr) (b:=w.heap.size) (l:=cs) (i:=k) I.out (by rw[A.out];omega);have cc:((l.getD k 0:Nat):Int)≤4294967295:=by omega
   have cd:((m.getD k 0:Nat):Int)≤4294967295:=by omega
   have bu:(c:Int)≤1:=by omega
   by_cases al:k<j
   ·obtain⟨b2,o2,rfl,L,C⟩:=HB.out k al;have bn:=M.cell (p:=⟨b2,o2+k,none⟩) L C;clear C L;obtain⟨d0,d,r,q,an,bz,ap,bi,hq,Y,U⟩:=q6D _ c _ hx hy hc;have HS:=hi9 (rP F A.out HV.out U);generalize l.getD k 0=x at *;generalize m.getD k 0=y at *;generalize cs.getD k 0=z at *;have HR:=hi9 Y;clear Y U hx hy;go_wp2_with fail
    go_roundw
    case rel=>exact⟨k+1,q,cs.set k r,by omega,by go_num,rfl,hq,by rw[aF];exact A.out,Own.set I.out k r (by rw[A.out];omega) HR.out,HS.out,M.setCell (aI _) _⟩
    case measure=>simp only[intOf];omega
   ·have s:m.getD k 0=0:=by rw[ak,bo (by rw[HJ.out];omega)];rfl
    obtain⟨d,r,q,an,ap,bi,hq,Y,U⟩:=q70 _ c hx hc;have HS:Hid _:=rP (m:=m) F A.out HV.out (by rw[s];exact U);generalize l.getD k 0=x at *;generalize cs.getD k 0=z at *;have HR:=hi9 Y;clear Y U hx hy s;go_wp2_with fail
    go_roundw
    case rel=>exact⟨k+1,q,cs.set k r,by omega,by go_num,rfl,hq,by rw[aF];exact A.out,Own.set I.out k r (by rw[A.out];omega) HR.out,HS.out,M.setCell (aI _) _⟩
    case measure=>simp only[intOf];omega
  ·obtain rfl:k=n:=by omega
   have hT:=hi9 (gi (I.out:Own wr w.heap.size cs) A.out eX);have q2:val cs=val l-val m:=by
    have h1:=HV.out;rw[aH (by rw[HN.out];omega),aH (by rw[A.out];omega),aH (by rw[HJ.out];omega)] at h1;have h2:=fO (I.out:Own wr w.heap.size cs).1;rw[A.out] at h2;have h3:=af.out;generalize 2^(32*k)=p at *;rcases(by omega:c=0∨c=1) with rfl|rfl
    ·omega
    ·omega
   rw[q2] at hT;clear q2;go_wp2_with fail;refine Calls.mono (P:=Tryz.prog) hT.out ?_;rintro e w1 ⟨v1,rfl,ag,am⟩;go_wp2_with fail;go_ret;exact⟨v1,rfl,ab M ag,am⟩
theorem ir (w:World) (a:Option Addr) (c:Nat):Num w (.slice a 0 c) 0:=⟨[],⟨iv,Or.inl ⟨rfl,_,_,rfl⟩⟩,gT,rfl⟩
theorem jJ (n:Nat):val (List.replicate n 0)=0:=by
 induction n with
 |zero=>rfl
 |succ n A=>rw[List.replicate_succ];simp [val,A]
theorem lM {l:List Nat} {p r:Nat} (h:p<l.length):val (l.set p r)+2^(32*p)*l.getD p 0=val l+2^(32*p)*r:=by
 have h1:=fT (l:=l.set p r) (k:=p) (by simpa using h);have h2:=fT h;rw[gu,fB h,cA eX] at h1;rw[h1,h2,aE,aE];omega
/-- One step of a product's row. -/
theorem q2Q {cs m:List Nat} {i t N c x P r q:Nat} (A:i+t<N) (C:N≤cs.length)
  (h:val (cs.take N)+2^(32*(i+t))*c=P+2^(32*i)*(x*val (m.take t)))
  (B:c+(x*m.getD t 0+cs.getD (i+t) 0)=r+2^32*q):
  val ((cs.set (i+t) r).take N)+2^(32*(i+(t+1)))*q=P+2^(32*i)*(x*val (m.take (t+1))):=by
 have h1:=lM (l:=cs.take N) (p:=i+t) (r:=r) (by rw[bD];omega);rw[List.take_set];have h2:(cs.take N).getD (i+t) 0=cs.getD (i+t) 0:=by
  rw[ak,ak,eQ A]
 rw[h2] at h1;rw[fi m,aE x,aE (2^(32*i)),← cM P,← h];rw[show 32*(i+(t+1))=32*(i+t)+32 from by omega,ah,ar];rw[show 2^(32*i)*(x*(2^(32*t)*m.getD t 0))=2^(32*(i+t))*(x*m.getD t 0) from by
  rw[aE,ah,ar,db x]]
 have h3:2^(32*(i+t))*(c+(x*m.getD t 0+cs.getD (i+t) 0))=2^(32*(i+t))*(r+2^32*q):=by rw[B]
 rw[aE (2^(32*(i+t))),aE (2^(32*(i+t))),aE (2^(32*(i+t)))] at h3;omega
/-- The end of a product's row. -/
theorem q4N {cs l m:List Nat} {i j c P:Nat} (hi:i+j<cs.length) (B:m.length=j)
  (A:P=val (l.take i)*val m)
  (h:val (cs.take (i+j))+2^(32*(i+j))*c=P+2^(32*i)*(l.getD i 0*val (m.take j))):
  val ((cs.set (i+j) c).take (i+1+j))=val (l.take (i+1))*val m:=by
 rw[show i+1+j=i+j+1 from by omega,fK hi,h,aH eX,A,fi l,aL,ar]
theorem q6V (c x y z:Nat) (A:c<2^32) (B:x<2^32) (C:y<2^32) (D:z<2^32):
  ∃ p r q:Nat,(x:Int)*y=p∧p≤18446744065119617025∧IntKind.u32.wrap ((c:Int)+(p+z))=r∧((c:Int)+(p+z))/4294967296=q∧q<2^32∧r<2^32∧c+(x*y+z)=r+2^32*q:=by
 have h:x*y≤4294967295*4294967295:=bF eX eX;refine⟨x*y,(c+(x*y+z))%2^32,(c+(x*y+z))/2^32,by push_cast;rfl,by omega,?_,?_,?_,?_,?_⟩
 ·rw[IntKind.wrap_u32];generalize x*y=p at *;omega
 all_goals generalize x*y=p at *;omega
theorem q6U (w:World) (va vb:Value) (a b K:Nat) (hK:K≤500000) (ha:Num w va a) (hb:Num w vb b) (U:a<2^(32*K)) (X:b<2^(32*K)):
  Calls Tryz.prog 160 #[va,vb] w (fo w (a*b)):=by
 obtain⟨l,hl,an,rfl⟩:=ha;obtain⟨m,hm,ap,rfl⟩:=hb;have ci:=fg an U;have cl:=fg ap X;clear U X;have Y:=hl.1;have Z:=hm.1;obtain⟨pa,ca,rfl,bz,d⟩:=fF hl;obtain⟨pb,cb,rfl,cc,k⟩:=fF hm;have HA:=hi9 d;have HB:=hi9 k;clear d k hl hm;generalize hn:l.length=n at *;generalize hj:m.length=j at *;have HN:=hi9 hn;have HJ:=hi9 hj;clear hn hj;by_cases bn:n=0
 ·subst bn;have R:l=[]:=aN HN.out;subst R;go_enter Tryz.func160,Tryz.ntmps160;go_wp2_with fail;go_ret;exact⟨_,rfl,ad _,by rw[show val []=0 from rfl,bL];exact ir _ _ _⟩
 by_cases bl:j=0
 ·subst bl;have R:m=[]:=aN HJ.out;subst R;have t0:((n:Int)==0)=false:=by simp;omega
  go_enter Tryz.func160,Tryz.ntmps160;go_wp2_with fail;go_ret;exact⟨_,rfl,ad _,by rw[show val []=0 from rfl,bG];exact ir _ _ _⟩
 have t0:((n:Int)==0)=false:=by simp;omega
 have t1:((j:Int)==0)=false:=by simp;omega
 have bm:=gV (n+j) eX;rw[show ((n+j:Nat):Int)=(n:Int)+j from by omega] at bm;go_enter Tryz.func160,Tryz.ntmps160;go_wp2_with fail
 go_loopw [6] (fun vk wr=>∃ (i:Nat) (cs:List Nat),i≤n∧vk= .int .i64 i∧cs.length=n+j∧Own wr w.heap.size cs∧val (cs.take (i+j))=val (l.take i)*val m∧G w wr) (fun vk _=>n-(intOf vk).toNat)
 case atStart=>exact⟨0,List.replicate (n+j) 0,bU _,rfl,by simp,gh w (n+j) 182,by rw[List.take_replicate,jJ];simp [val],(ad _).alloc _⟩
 case round=>
  obtain⟨i,cs,hi,rfl,E,C,D,F⟩:=hrel;have HV:=hi9 D;have s:=hi9 E;have HO:=hi9 C;clear D E C;by_cases bi:i<n
  ·obtain⟨b1,o1,rfl,M,J⟩:=HA.out i bi;have hx:=ff Y i;go_wp2_with fail
   go_loopw [7,8] (fun vc vt wr=>∃ (t c:Nat) (cs:List Nat),t≤j∧vt= .int .i64 t∧vc= .int .u64 c∧c<2^32∧cs.length=n+j∧Own wr w.heap.size cs∧val (cs.take (i+j))+2^(32*(i+t))*c=val (l.take i)*val m+2^(32*i)*(l.getD i 0*val (m.take t))∧G w wr) (fun _ vt _=>j-(intOf vt).toNat)
   case atStart=>exact⟨0,0,cs,bU _,rfl,rfl,by omega,s.out,HO.out,by rw[HV.out];simp [val],F⟩
   case round=>
    obtain⟨t,c,cs,ht,rfl,rfl,hc,E,C,D,F⟩:=hrel;have S:=hi9 D;have A:=hi9 E;have B:=hi9 C;clear D E C;have cd:(c:Int)≤4294967295:=by omega
    by_cases bw:t<j
    ·obtain⟨b2,o2,rfl,O,L⟩:=HB.out t bw;have al:=F.cell (p:=⟨b1,o1+i,none⟩) M J;have am:=F.cell (p:=⟨b2,o2+t,none⟩) O L;clear J L;have hy:=ff Z t;have hz:=ff (B.out:Own wr w.heap.size cs).1 (i+t);have ho:=Own.cell (w:=wr) (b:=w.heap.size) (l:=cs) (i:=i+t) B.out (by rw[A.out];omega);have hf:=Own.frozen (w:=wr) (b:=w.heap.size) (l:=cs) (i:=i+t) B.out (by rw[A.out];omega);obtain⟨p,r,q,dr,cz,ds,ea,hq,hr,he⟩:=q6V c _ _ _ hc hx hy hz;have HS:Hid _:=q2Q (N:=i+j) eX (by rw[A.out];omega) S.out he;have HQ:=hi9 hq;have HR:=hi9 hr;have eb:((l.getD i 0:Nat):Int)≤4294967295:=by omega
     have ec:((m.getD t 0:Nat):Int)≤4294967295:=by omega
     have ee:((cs.getD (i+t) 0:Nat):Int)≤4294967295:=by omega
     have di:(p:Int)≤18446744065119617025:=by omega
     generalize l.getD i 0=x at *;generalize m.getD t 0=y at *;generalize cs.getD (i+t) 0=z at *;clear hq hr he hx hy hz;have dl:b1<wr.heap.size:=aj M F.size;have dq:b2<wr.heap.size:=aj O F.size;have o:w.heap.size<wr.heap.size:=(B.out:Own wr w.heap.size cs).2.1;clear M O;go_wp2_with fail;refine fq eZ eZ ?_;intro W hW;have bs:=iP (w:=W) ⟨b1,o1+i,none⟩ (.int .u32 (x:Int));have bu:=iP (w:=W) ⟨b2,o2+t,none⟩ (.int .u32 (y:Int));have bv:=iP (w:=W) ⟨w.heap.size,i+t,none⟩ (.int .u32 (z:Int));clear hW
     repeat (go_big_quiet_step (fail))
     refine wpQuiet_nil ?_;clear bs bu bv;intro w1 I;have cr:=I.cell o ho;have ce:=I.frozen o hf;have af:Hid (Own w1 w.heap.size cs):=Own.grow B.out I;have ag:=F.trans I;clear ho hf al am;go_wp2_with fail
     go_roundw
     case rel=>exact⟨t+1,q,cs.set (i+t) r,by omega,by go_num,rfl,HQ.out,by rw[aF];exact A.out,Own.set af.out (i+t) r (by rw[A.out];omega) HR.out,HS.out,ag.setCell (aI _) _⟩
     case measure=>simp only[intOf];omega
    ·obtain rfl:t=j:=by omega
     have ho:=Own.cell (w:=wr) (b:=w.heap.size) (l:=cs) (i:=i+t) B.out (by rw[A.out];omega);have hf:=Own.frozen (w:=wr) (b:=w.heap.size) (l:=cs) (i:=i+t) B.out (by rw[A.out];omega);generalize cs.getD (i+t) 0=z at *;have HK:Hid (c<2^32):=hc;have HS:Hid _:=q4N (l:=l) (m:=m) (by rw[A.out];omega) HJ.out rfl S.out;clear hc;go_wp2_with fail
     go_roundw
     case rel=>exact⟨i+1,cs.set (i+t) c,by omega,by go_num,by rw[aF];exact A.out,Own.set B.out (i+t) c (by rw[A.out];omega) HK.out,HS.out,F.setCell (aI _) _⟩
     case measure=>simp only[intOf];omega
  ·obtain rfl:i=n:=by omega
   have hT:=hi9 (gi (HO.out:Own wr w.heap.size cs) s.out eX);have q2:val cs=val l*val m:=by
    have h1:=HV.out
    rwa[aH (by rw[s.out];omega),aH (by rw[HN.out];omega)] at h1
   rw[q2] at hT;clear q2;go_wp2_with fail;refine Calls.mono (P:=Tryz.prog) hT.out ?_;rintro e w1 ⟨v1,rfl,ai,bq⟩;go_wp2_with fail;go_ret;exact⟨v1,rfl,ab F ai,bq⟩
theorem jf (n t:Nat):(List.replicate n 0).getD t 0=0:=by
 rw[ak,eT];split<;>rfl
theorem kP (w:World) (va:Value) (a:Nat) (O:Num w va a):
  Calls Tryz.prog 266 #[va] w fun e W=>e= .returned (.int .u64 ((a%2^64:Nat):Int))∧G w W:=by
 obtain⟨l,I,F,rfl⟩:=O;have B:=I.1;rcases Sl.cases I with ⟨rfl,p,c,rfl⟩|⟨A,b,o,c,rfl,X,hb,J⟩
 ·rw[show val []%2^64=0 from rfl];go_enter Tryz.func266,Tryz.ntmps266;go_wp2_with fail;go_ret;exact⟨rfl,ad _⟩
 ·have L:=J 0 (cq.2 A);rw[aP] at L;have E:=ff B 0;by_cases C:l.length=1
  ·have hv:val l%2^64=l.getD 0 0:=by
    match l,C with
    |[d],_=>simp only[val,List.getD_cons_zero] at E ⊢;omega
   rw[hv,C] at *;generalize l.getD 0 0=d0 at *;have K:(d0:Int)≤4294967295:=by omega
   clear J hv E I F B A;go_enter Tryz.func266,Tryz.ntmps266;go_wp2_with fail;go_ret;exact⟨rfl,ad _⟩
  ·have D:1<l.length:=by have:=cq.2 A;omega
   have U:=J 1 D;have h1:=ff B 1;have hv:val l%2^64=l.getD 0 0+l.getD 1 0*2^32:=by
    match l,D with
    |d::e::l',_=>simp only[val,List.getD_cons_zero,List.getD_cons_succ] at E h1 ⊢;omega
   rw[hv];generalize l.getD 0 0=d0 at *;generalize l.getD 1 0=d1 at *;have K:(d0:Int)≤4294967295:=by omega
   have N:(d1:Int)≤4294967295:=by omega
   have S:bits .or .u64 (d0:Int) ((d1:Int)*4294967296)=((d0+d1*2^32:Nat):Int):=by
    have M:(d1:Int)*4294967296=((d1*2^32:Nat):Int):=by omega
    rw[M,u64_or_nat d0 (d1*2^32) eX eX,dN,nat_join 32 (d1*2^32) d0 eX E,cR]
   generalize d0+d1*2^32=u at *;generalize l.length=k at *;have R:(1:Int)<k:=by omega
   clear J hv E h1 I F B A C D;go_enter Tryz.func266,Tryz.ntmps266;go_wp2_with fail;go_ret;exact⟨rfl,ad _⟩
theorem sE (x y s:Nat) (K:x<2^32) (J:s≤31) (L:y<2^s):∃ v lo hi:Nat,
  IntKind.u64.wrap ((x:Int)*2^s)=v∧bits .or .u32 (y:Int) ((v:Int)%4294967296)=lo∧bits .or .u32 (0:Int) ((v:Int)/4294967296%4294967296)=hi∧lo<2^32∧hi<2^s∧hi<2^32∧y+x*2^s=lo+2^32*hi:=by
 have O:2^s≤2^31:=ao eX J;have A:=ae s;have D:x*2^s<2^32*2^s:=av K A;have C:x*2^s%2^32=(x%2^(32-s))*2^s:=by
  have:2^32=2^(32-s)*2^s:=by rw[← ah];congr 1;omega
  rw[this,dj]
 have E:(x%2^(32-s))*2^s+2^s≤2^32:=by
  have h1:x%2^(32-s)<2^(32-s):=aW _ (ae _);have h2:(x%2^(32-s)+1)*2^s≤2^(32-s)*2^s:=au _ h1;rw[← ah,show 32-s+s=32 from by omega,aL,aT] at h2;exact h2
 have F:x*2^s%2^32%2^s=0:=by rw[C];exact eS _ _
 have M:x*2^s/2^32<2^s:=Nat.div_lt_of_lt_mul D;have I:((x:Int)*2^s)=((x*2^s:Nat):Int):=by push_cast;rfl
 rw[← C] at E;rw[I];generalize N:x*2^s=v at *;generalize B:2^s=R at *;refine⟨v,v%2^32+y,v/2^32,?_,?_,?_,by omega,by omega,by omega,by omega⟩
 ·rw[IntKind.wrap_u64];omega
 ·rw[show (v:Int)%4294967296=((v%2^32:Nat):Int) from by omega,u32_or_nat _ _ eX eX,dN];subst B;rw[nat_join s _ y F L]
 ·rw[show (v:Int)/4294967296%4294967296=((v/2^32:Nat):Int) from by omega];have:=u32_or_nat 0 (v/2^32) eX eX;rw[Nat.zero_or] at this;exact this
theorem getD_set_ne {l:List Nat} {i t x:Nat} (h:i≠t):(l.set i x).getD t 0=l.getD t 0:=by
 rw[ak,ak,aY h]
/-- One step of a shift to the left. -/
theorem left_step {cs l:List Nat} {i q s n lo hi:Nat} (C:i+q+1<cs.length) (B:n=32*q+s)
  (hv:val (cs.take (i+q+1))=val (l.take i)*2^n) (A:cs.getD (i+q) 0+l.getD i 0*2^s=lo+2^32*hi):
  val (((cs.set (i+q) lo).set (i+q+1) hi).take (i+1+q+1))=val (l.take (i+1))*2^n:=by
 rw[show i+1+q+1=i+q+1+1 from by omega,fK (by rw[aF];exact C),fK eX,fi l,aL,← hv,fi cs];rw[show 2^(32*i)*l.getD i 0*2^n=2^(32*(i+q))*(l.getD i 0*2^s) from by
  rw[B,aE 32 i q,ah,ah];rw[ar,ar,db (l.getD i 0)]]
 have h3:2^(32*(i+q))*(cs.getD (i+q) 0+l.getD i 0*2^s)=2^(32*(i+q))*(lo+2^32*hi):=by rw[A]
 rw[aE (2^(32*(i+q))),aE (2^(32*(i+q)))] at h3;rw[show 32*(i+q+1)=32*(i+q)+32 from by omega,ah,ar];omega
theorem jq (w:World) (va:Value) (a n K:Nat) (hK:K≤500000) (hn:n≤10000000) (ha:Num w va a) (L:a<2^(32*K)):
  Calls Tryz.prog 249 #[va,.int .u64 (n:Int)] w (fo w (a*2^n)):=by
 obtain⟨l,hl,o,rfl⟩:=ha;have bn:=fg o L;clear L;have U:=hl.1;obtain⟨pa,ca,rfl,ap,W⟩:=fF hl;have HA:=hi9 W;clear W hl;generalize O:l.length=j at *;have HN:=hi9 O;clear O;by_cases af:j=0
 ·subst af;have ag:l=[]:=aN HN.out;subst ag;go_enter Tryz.func249,Tryz.ntmps249;go_wp2_with fail;go_ret;exact⟨_,rfl,ad _,by rw[show val []=0 from rfl,bL];exact ir _ _ _⟩
 have t0:((j:Int)==0)=false:=by simp;omega
 have bi:(n:Int)/32=((n/32:Nat):Int):=by omega
 have bl:(n:Int)%32=((n%32:Nat):Int):=by omega
 have S:n=32*(n/32)+n%32:=by omega
 have hs:((n%32:Nat):Int)≤31:=by omega
 have hq:((n/32:Nat):Int)≤312500:=by omega
 generalize n/32=q at *;generalize n%32=s at *;have d:=hi9 S;have bq:(n:Int)≤10000000:=by omega
 clear S hn;have ai:=gV (j+q+1) eX;rw[show ((j+q+1:Nat):Int)=(j:Int)+q+1 from by omega] at ai;go_enter Tryz.func249,Tryz.ntmps249;go_wp2_with fail
 go_loopw [8] (fun vk wr=>∃ (i:Nat) (cs:List Nat),i≤j∧vk= .int .i64 i∧cs.length=j+q+1∧Own wr w.heap.size cs∧val (cs.take (i+q+1))=val (l.take i)*2^n∧cs.getD (i+q) 0<2^s∧(∀ t,i+q<t→cs.getD t 0=0)∧G w wr) (fun vk _=>j-(intOf vk).toNat)
 case atStart=>exact⟨0,List.replicate (j+q+1) 0,bU _,rfl,by simp,gh w (j+q+1) 182,by rw[List.take_replicate,jJ];simp [val],by rw[jf];exact ae _,fun t _=>jf _ _,(ad _).alloc _⟩
 case round=>
  obtain⟨i,cs,hi,rfl,M,E,F,D,X,k⟩:=hrel;have HV:=hi9 F;have A:=hi9 M;have I:=hi9 E;have HL:=hi9 D;have HU:=hi9 X;clear F M E D X;by_cases y:i<j
  ·obtain⟨b1,o1,rfl,J,B⟩:=HA.out i y;have hx:=ff U i;have an:=k.cell (p:=⟨b1,o1+i,none⟩) J B;clear B J;have ho:=Own.cell (w:=wr) (b:=w.heap.size) (l:=cs) (i:=i+q) I.out (by rw[A.out];omega);have hf:=Own.frozen (w:=wr) (b:=w.heap.size) (l:=cs) (i:=i+q) I.out (by rw[A.out];omega);have am:=Own.cell (w:=wr) (b:=w.heap.size) (l:=cs) (i:=i+q+1) I.out (by rw[A.out];omega);have bm:=Own.frozen (w:=wr) (b:=w.heap.size) (l:=cs) (i:=i+q+1) I.out (by rw[A.out];omega);have hu:=HU.out (i+q+1) eX;rw[hu] at am;obtain⟨v,lo,hi2,bs,bu,bv,R,N,C,he⟩:=sE _ _ s hx eX HL.out;have HS:Hid _:=left_step (by rw[A.out];omega) d.out HV.out he;have c:=hi9 R;have Z:=hi9 N;have Y:=hi9 C;have bw:((l.getD i 0:Nat):Int)≤4294967295:=by omega
   generalize l.getD i 0=x at *;generalize cs.getD (i+q) 0=z at *;clear R N C he hx hu;go_wp2_with fail
   go_roundw
   case rel=>exact⟨i+1,(cs.set (i+q) lo).set (i+q+1) hi2,by omega,by go_num,by rw[aF,aF];exact A.out,Own.set (Own.set I.out (i+q) lo (by rw[A.out];omega) c.out) (i+q+1) hi2 (by rw[aF,A.out];omega) Y.out,HS.out,by rw[show i+1+q=i+q+1 from by omega,fB (by rw[aF,A.out];omega)];exact Z.out,fun t ht=>by rw[getD_set_ne eX,getD_set_ne eX];exact HU.out t eX,(k.setCell (aI _) _).setCell (aI _) _⟩
   case measure=>simp only[intOf];omega
  ·obtain rfl:i=j:=by omega
   have hT:=hi9 (gi (I.out:Own wr w.heap.size cs) A.out eX);have q2:val cs=val l*2^n:=by
    have h1:=HV.out
    rwa[aH (by rw[A.out];omega),aH (by rw[HN.out];omega)] at h1
   rw[q2] at hT;clear q2;go_wp2_with fail;refine Calls.mono (P:=Tryz.prog) hT.out ?_;rintro e w1 ⟨v1,rfl,m,al⟩;go_wp2_with fail;go_ret;exact⟨v1,rfl,ab k m,al⟩
theorem iD {l:List Nat} (h:okw l) (k:Nat):val (l.drop k)=val l/2^(32*k):=by
 by_cases A:k≤l.length
 ·have h1:=gk l k A;have h2:=fY h k A;rw[h1,cZ _ _ (ae _),b9 h2,aK]
 ·rw[aR eX];have h1:=fO h;have h2:2^(32*l.length)≤2^(32*k):=ao eX eX;rw[b9 eX];rfl
theorem rB (x y Z s:Nat) (A:s≤31):(x+2^32*(y+2^32*Z))/2^s%2^32=(x+y*2^32)/2^s%2^32:=by
 have e:x+2^32*(y+2^32*Z)=(x+y*2^32)+2^s*(2^32*(2^(32-s)*Z)):=by
  have:2^s*(2^32*(2^(32-s)*Z))=2^32*(2^32*Z):=by
   rw[db,← ar (2^s),← ah,show s+(32-s)=32 from by omega]
  rw[this];omega
 rw[e,cZ _ _ (ae _),dh]
theorem q4X (x y s:Nat) (A:x<2^32) (B:y<2^32):∃ v d:Nat,
  bits .or .u64 (x:Int) ((y:Int)*4294967296)=v∧IntKind.u32.wrap ((v:Int)/2^s)=d∧d<2^32∧d=(x+y*2^32)/2^s%2^32:=by
 refine⟨x+y*2^32,(x+y*2^32)/2^s%2^32,?_,?_,aW _ eX,rfl⟩
 ·rw[show (y:Int)*4294967296=((y*2^32:Nat):Int) from by omega,u64_or_nat _ _ eX eX,dN,nat_join 32 _ x eX A,cR]
 ·rw[IntKind.wrap_u32];generalize x+y*2^32=v;have:(v:Int)/2^s=((v/2^s:Nat):Int):=by push_cast;rfl
  rw[this];omega
/-- One step of a shift to the right. -/
theorem right_step {cs l:List Nat} {i q s d W:Nat} (C:okw l) (hi:i<cs.length) (A:W=val (l.drop q)/2^s) (E:s≤31)
  (hv:val (cs.take i)=W%2^(32*i)) (D:i+q<l.length) (B:d=(l.getD (i+q) 0+l.getD (i+q+1) 0*2^32)/2^s%2^32):
  val ((cs.set i d).take (i+1))=W%2^(32*(i+1)):=by
 rw[fK hi,hv,show 32*(i+1)=32*i+32 from by omega,ah,eD]
 congr 2
 have h1:W/2^(32*i)=val (l.drop (i+q))/2^s:=by
  rw[A,bR,aJ,← bR,← iD (kA C q),List.drop_drop,cR q i]
 rw[h1,B,fD D];have h2:val (l.drop (i+q+1))=l.getD (i+q+1) 0+2^32*val (l.drop (i+q+2)):=by
  by_cases h:i+q+1<l.length
  ·rw[fD h];rfl
  ·rw[aR eX,aR eX,ak,bo eX];rfl
 show _=(l.getD (i+q) 0+2^32*val (l.drop (i+q+1)))/2^s%2^32;rw[h2,rB _ _ _ _ E]
theorem iN (w:World) (va:Value) (a n K:Nat) (hK:K≤1000000) (hn:n≤40000000) (ha:Num w va a) (O:a<2^(32*K)):
  Calls Tryz.prog 220 #[va,.int .u64 (n:Int)] w (fo w (a/2^n)):=by
 obtain⟨l,hl,af,rfl⟩:=ha;have bu:=fg af O;clear O;have A:=hl.1;obtain⟨pa,ca,rfl,bl,Y⟩:=fF hl;have HA:=hi9 Y;clear Y hl;have bm:(n:Int)/32=((n/32:Nat):Int):=by omega
 have bn:(n:Int)%32=((n%32:Nat):Int):=by omega
 have X:n=32*(n/32)+n%32:=by omega
 have hs:((n%32:Nat):Int)≤31:=by omega
 have hq:((n/32:Nat):Int)≤1250000:=by omega
 generalize n/32=q at *;generalize n%32=s at *;have I:=hi9 X;have bw:(n:Int)≤40000000:=by omega
 clear X hn;by_cases bz:l.length≤q
 ·have hz:val l/2^n=0:=by
   have h1:=fO A;have h2:2^(32*l.length)≤2^n:=ao eX (by rw[I.out];omega);exact b9 eX
  rw[hz];generalize l.length=j at *;have t0:(j:Int)≤q:=by omega
  go_enter Tryz.func220,Tryz.ntmps220;go_wp2_with fail;go_ret;exact⟨_,rfl,ad _,ir _ _ _⟩
 ·generalize W:l.length=j at *;have m:=hi9 W;clear W;have t0:¬ (j:Int)≤q:=by omega
  obtain⟨k,hk⟩:∃ k,j=k+q:=⟨j-q,by omega⟩;have bq:(j:Int)-q=k:=by omega
  have bs:(k:Int)≤1000000:=by omega
  have bv:=gV k eX;have HK:=hi9 hk;clear hk;go_enter Tryz.func220,Tryz.ntmps220;go_wp2_with fail
  go_loopw [8] (fun vk wr=>∃ (i:Nat) (cs:List Nat),i≤k∧vk= .int .i64 i∧cs.length=k∧Own wr w.heap.size cs∧val (cs.take i)=val (l.drop q)/2^s%2^(32*i)∧G w wr) (fun vk _=>k-(intOf vk).toNat)
  case atStart=>exact⟨0,List.replicate k 0,bU _,rfl,by simp,gh w k 182,by simp [val,Nat.mod_one],(ad _).alloc _⟩
  case round=>
   obtain⟨i,cs,hi,rfl,R,E,F,N⟩:=hrel;have HV:=hi9 F;have B:=hi9 R;have J:=hi9 E;clear F R E;by_cases ai:i<k
   ·have S:i+q<j:=by have:=HK.out;omega
    obtain⟨b1,o1,rfl,L,C⟩:=HA.out (i+q) S;have ap:=N.cell (p:=⟨b1,o1+(i+q),none⟩) L C;clear C L;have hx:=ff A (i+q);have hy:=ff A (i+q+1);have ho:=Own.cell (w:=wr) (b:=w.heap.size) (l:=cs) (i:=i) J.out (by rw[B.out];omega);have hf:=Own.frozen (w:=wr) (b:=w.heap.size) (l:=cs) (i:=i) J.out (by rw[B.out];omega);obtain⟨v,d,Z,am,hd,he⟩:=q4X _ _ s hx hy;have HS:Hid _:=right_step (cs:=cs) (d:=d) A (by rw[B.out];exact ai) rfl eX HV.out (by rw[m.out];exact S) he;have HD:=hi9 hd;have cb:((l.getD (i+q) 0:Nat):Int)≤4294967295:=by omega
    have an:((l.getD (i+q+1) 0:Nat):Int)≤4294967295:=by omega
    by_cases U:i+q+1<j
    ·obtain⟨b2,o2,ag,M,D⟩:=HA.out (i+q+1) U;cases ag;have bi:=N.cell (p:=⟨b1,o1+(i+q+1),none⟩) M D;clear D M;generalize l.getD (i+q) 0=x at *;generalize l.getD (i+q+1) 0=y at *;generalize cs.getD i 0=z at *;clear hd he hx hy;go_wp2_with fail
     go_roundw
     case rel=>exact⟨i+1,cs.set i d,by omega,by go_num,by rw[aF];exact B.out,Own.set J.out i d (by rw[B.out];omega) HD.out,HS.out,N.setCell (aI _) _⟩
     case measure=>simp only[intOf];omega
    ·have c:l.getD (i+q+1) 0=0:=by rw[ak,bo (by rw[m.out];omega)];rfl
     have hv:(v:Int)=((l.getD (i+q) 0:Nat):Int):=by
      rw[← Z,c];have:=u64_or_nat (l.getD (i+q) 0) 0 eX eX;rw[Nat.or_zero] at this;exact this
     rw[hv] at am;generalize l.getD (i+q) 0=x at *;generalize cs.getD i 0=z at *;clear hd he hx hy c Z hv an;go_wp2_with fail
     go_roundw
     case rel=>exact⟨i+1,cs.set i d,by omega,by go_num,by rw[aF];exact B.out,Own.set J.out i d (by rw[B.out];omega) HD.out,HS.out,N.setCell (aI _) _⟩
     case measure=>simp only[intOf];omega
   ·obtain rfl:i=k:=by omega
    have hT:=hi9 (gi (J.out:Own wr w.heap.size cs) B.out eX);have q2:val cs=val l/2^n:=by
     have h1:=HV.out;rw[aH (by rw[B.out];omega)] at h1;have h2:=fO (kA A q);rw[dt,m.out,HK.out,eh] at h2;rw[h1,bh (aD (aX _ _) h2),iD A,bR,← ah,I.out]
    rw[q2] at hT;clear q2;go_wp2_with fail;refine Calls.mono (P:=Tryz.prog) hT.out ?_;rintro e w1 ⟨v1,rfl,o,al⟩;go_wp2_with fail;go_ret;exact⟨v1,rfl,ab N o,al⟩
theorem q59 (r x d:Nat) (B:r<d) (C:x<2^32) (D:d<2^32):∃ R q A:Nat,
  bits .or .u64 ((r:Int)*4294967296) (x:Int)=R∧IntKind.u64.wrap ((R:Int)/d)=q∧(q:Int)%4294967296=q∧(R:Int)%d=A∧A<d∧q<2^32∧r*2^32+x=q*d+A:=by
 have h1:(r*2^32+x)/d<2^32:=by
  rw[aO eX];have:(r+1)*2^32≤d*2^32:=au _ B;rw[aJ (2^32) d];omega
 refine⟨r*2^32+x,(r*2^32+x)/d,(r*2^32+x)%d,?_,?_,?_,?_,aW _ eX,h1,?_⟩
 ·rw[show (r:Int)*4294967296=((r*2^32:Nat):Int) from by omega,u64_or_nat _ _ eX eX,nat_join 32 _ x eX C]
 ·rw[IntKind.wrap_u64,← dA];generalize (r*2^32+x)/d=q at *;omega
 ·generalize (r*2^32+x)/d=q at *;omega
 ·rw[← dL]
 ·exact(Nat.div_add_mod' _ _).symm
/-- One step of a division by a word. -/
theorem q0m {cs l:List Nat} {k r q A d:Nat} (B:k<cs.length) (C:k<l.length)
  (hv:val (l.drop (k+1))=val (cs.drop (k+1))*d+r) (D:r*2^32+l.getD k 0=q*d+A):
  val (l.drop k)=val ((cs.set k q).drop k)*d+A:=by
 rw[fD C,fD (l:=cs.set k q) (by simpa using B),fB B,cA eX];show l.getD k 0+2^32*val (l.drop (k+1))=(q+2^32*val (cs.drop (k+1)))*d+A;rw[hv,aL,aE,← ar];omega
theorem q57 (w:World) (va:Value) (a d K:Nat) (hK:K≤1000000) (J:0<d) (hd:d<2^32) (ha:Num w va a) (F:a<2^(32*K)):
  Calls Tryz.prog 175 #[va,.int .u32 (d:Int)] w fun e w'=>∃ v,e= .returned (.tuple #[v,.int .u32 ((a%d:Nat):Int)])∧G w w'∧Num w' v (a/d):=by
 obtain⟨l,Y,X,rfl⟩:=ha;have am:=fg X F;clear F;have M:=Y.1;obtain⟨pa,ca,rfl,ag,O⟩:=fF Y;have HA:=hi9 O;clear O Y;generalize L:l.length=j at *;have HN:=hi9 L;clear L;have an:=gV j eX;have ai:(d:Int)≤4294967295:=by omega
 have al:((d:Int)==0)=false:=by simp;omega
 go_enter Tryz.func175,Tryz.ntmps175;go_wp2_with fail
 go_loopw [7,8] (fun vr y wr=>∃ (t r:Nat) (cs:List Nat),t≤j∧y= .int .i64 ((t:Int)-1)∧vr= .int .u64 r∧r<d∧cs.length=j∧Own wr w.heap.size cs∧val (l.drop t)=val (cs.drop t)*d+r∧G w wr) (fun _ y _=>(intOf y+1).toNat)
 case atStart=>exact⟨j,0,List.replicate j 0,aI _,rfl,rfl,J,by simp,gh w j 182,by rw[aR (by rw[HN.out];exact aI _),aR fX];simp [val],(ad _).alloc _⟩
 case round=>
  obtain⟨t,r,cs,ht,rfl,rfl,c,I,B,C,U⟩:=hrel;have HV:=hi9 C;have D:=hi9 I;have S:=hi9 B;clear C I B;cases t with
  |succ k=>
   obtain⟨b1,o1,rfl,E,A⟩:=HA.out k eX;have af:=U.cell (p:=⟨b1,o1+k,none⟩) E A;clear A E;have hx:=ff M k;have ho:=Own.cell (w:=wr) (b:=w.heap.size) (l:=cs) (i:=k) S.out (by rw[D.out];omega);have hf:=Own.frozen (w:=wr) (b:=w.heap.size) (l:=cs) (i:=k) S.out (by rw[D.out];omega);obtain⟨R,q,r',ap,bi,bl,o,N,hq,he⟩:=q59 r _ d c hx hd;have HS:Hid _:=q0m (cs:=cs) (l:=l) (by rw[D.out];omega) (by rw[HN.out];omega) HV.out he;have HQ:=hi9 hq;have HR:=hi9 N;have bm:((l.getD k 0:Nat):Int)≤4294967295:=by omega
   have m:(r:Int)≤4294967295:=by omega
   generalize l.getD k 0=x at *;generalize cs.getD k 0=z at *;clear he hq N hx;go_wp2_with fail;simp only[o]
   go_roundw
   case rel=>exact⟨k,r',cs.set k q,by omega,by congr 1,rfl,HR.out,by rw[aF];exact D.out,Own.set S.out k q (by rw[D.out];omega) HQ.out,HS.out,U.setCell (aI _) _⟩
   case measure=>simp [intOf]
  |zero=>
   have hT:=hi9 (gi (S.out:Own wr w.heap.size cs) D.out eX);have s:val l=val cs*d+r:=HV.out;have q2:val cs=val l/d:=by
    rw[s,aJ,Nat.mul_add_div J,b9 c,aP]
   have q3:r=val l%d:=by
    rw[s,aJ,Nat.mul_add_mod,bh c]
   rw[q2] at hT;have Q3:=hi9 q3;have hw:IntKind.u32.wrap (r:Int)=(r:Int):=by rw[IntKind.wrap_u32];omega
   have m:(r:Int)≤4294967295:=by omega
   clear s q2 q3;go_wp2_with fail;refine Calls.mono (P:=Tryz.prog) hT.out ?_;rintro e w1 ⟨v1,rfl,W,Z⟩;go_wp2_with fail
   go_ret2
   exact⟨v1,by rw[← Q3.out];rfl,ab U W,Z⟩
/-- The length of a number in bits. -/
def blen (a:Nat):Nat:=if a=0 then 0 else a.log2+1
theorem pk {a k:Nat} (h:a<2^k) (h2:k=0∨2^(k-1)≤a):blen a=k:=by
 unfold blen;rcases cm k with rfl|A
 ·rw[if_pos (by simpa using h)]
 ·have h3:2^(k-1)≤a:=by rcases h2 with h2|h2;omega;exact h2
  have:=ae (k-1);rw[if_neg eX,(dS eX).2 ⟨h3,by rw[Nat.sub_add_cancel A];exact h⟩];omega
theorem jL {l:List Nat} {n:Nat} (h:canon l) (A:l.length=n+1):l.getD n 0≠0:=by
 have B:l≠[]:=by intro e;rw[e] at A;simp at A
 have:=h.2 B;rw[List.getLast_eq_getElem] at this;rw[ak,aQ eX];simpa [A] using this
theorem nq (w:World) (va:Value) (a K:Nat) (hK:K≤1000000) (s:Num w va a) (D:a<2^(32*K)):
  Calls Tryz.prog 178 #[va] w fun e w'=>e= .returned (.int .i64 (blen a))∧G w w':=by
 obtain⟨l,R,E,rfl⟩:=s;have ai:=fg E D;clear D;have A:=R.1;obtain⟨pa,ca,rfl,af,J⟩:=fF R;have c:=hi9 J;clear J R;generalize I:l.length=j at *;have C:=hi9 I;clear I;cases j with
 |zero=>
  have S:l=[]:=aN C.out;subst S;rw[show blen (val [])=0 from rfl];go_enter Tryz.func178,Tryz.ntmps178;go_wp2_with fail;go_ret;exact⟨rfl,ad _⟩
 |succ n=>
  obtain⟨b1,o1,rfl,o,y⟩:=c.out n eX;have hx:=ff A n;have B:=jL E C.out;have hv:∀ k,k≤32→l.getD n 0<2^k→2^(k-1)≤l.getD n 0→blen (val l)=n*32+k:=by
   intro k X h1 h2;have h3:=fT (l:=l) (k:=n) (by rw[C.out];omega);rw[aR (by rw[C.out];omega)] at h3;have h4:=fY A n (by rw[C.out];omega);have ag:k≠0:=by rintro rfl;simp at h1;exact B h1
   simp only[val,bG,aP] at h3;refine pk ?_ (Or.inr ?_)
   ·rw[show n*32+k=32*n+k from by omega,ah,h3];have:2^(32*n)*(l.getD n 0+1)≤2^(32*n)*2^k:=aB _ h1;rw[aE] at this;omega
   ·rw[show n*32+k-1=32*n+(k-1) from by omega,ah,h3];have:2^(32*n)*2^(k-1)≤2^(32*n)*l.getD n 0:=aB _ h2;omega
  have i:=hi9 hv;have ap:((l.getD n 0:Nat):Int)≤4294967295:=by omega
  have O:=hi9 B;generalize l.getD n 0=x at *;generalize blen (val l)=bi at *;clear hv B;go_enter Tryz.func178,Tryz.ntmps178;go_wp2_with fail
  go_loopw [3,4] (fun vn U wr=>∃ k t:Nat,k≤32∧vn= .int .i64 k∧U= .int .u32 t∧t=x/2^k∧(k=0∨2^(k-1)≤x)∧G w wr) (fun _ U _=>(intOf U).toNat)
  case atStart=>exact⟨0,x,by omega,rfl,rfl,by simp,Or.inl rfl,ad _⟩
  case round=>
   obtain⟨k,t,X,rfl,rfl,Y,F,W⟩:=hrel;have L:=hi9 Y;have M:=hi9 F;clear Y F;by_cases m:t=0
   ·subst m;have h1:x<2^k:=by
     rcases bI x (2^k) with h|h
     ·exact h
     ·have:=ej h (ae k);have:=L.out;omega
    have h2:2^(k-1)≤x:=by
     rcases M.out with rfl|h
     ·exact absurd (by simpa using h1) O.out
     ·exact h
    have d:=hi9 (i.out k X h1 h2);clear h1 h2;go_wp2_with fail;go_ret;exact⟨by rw[d.out];exact fU (by push_cast;omega),W⟩
   ·have t1:((t:Int)==0)=false:=by simp;omega
    have h1:2^k≤x:=by
     rcases bI x (2^k) with h|h
     ·have:=b9 h;have:=L.out;omega
     ·exact h
    have h2:k<32:=by
     rcases bI k 32 with h|h
     ·exact h
     ·have:2^32≤2^k:=ao eX h;omega
    have Z:=hi9 h1;obtain⟨u,hu,al⟩:∃ u:Nat,u=t/2∧(t:Int)/2=u:=⟨t/2,rfl,by omega⟩;have N:=hi9 hu;have an:u<t:=by omega
    clear hu;have am:(t:Int)≤4294967295:=by have:=aX x (2^k);have:=L.out;omega
    clear h1;go_wp2_with fail
    go_roundw
    case rel=>exact⟨k+1,u,by omega,by go_num,by rfl,by rw[N.out,L.out,bR,← bH],Or.inr Z.out,W⟩
    case measure=>simp only[intOf];omega
end Go.Proofs.YtohcneeihdkfgaaGreatDoor
namespace Go.Proofs.YtohcneeihdkfgaaGreatDoor
open BN
/-! The guess of a digit. -/
/-- No guess is too small: at first. -/
theorem q5S {S W h top P u2:Nat} (E:S<(h*2^32+u2+1)*P) (hu:u2<2^32) (B:top*2^32*P≤W) (C:0<top):S<(h/top+1)*W:=by
 have h1:h<(h/top+1)*top:=by
  have h2:=cu h top;have h3:=aW h C;rw[aL,aT,aJ];omega
 have D:(h*2^32+u2+1)*P≤(h/top+1)*top*2^32*P:=au _ (by
  have:(h+1)*2^32≤(h/top+1)*top*2^32:=au _ h1;omega)
 have A:(h/top+1)*(top*2^32*P)≤(h/top+1)*W:=aB _ B;rw[← ar,← ar] at A;omega
/-- A guess that is told too great is too great. -/
theorem sB {S W g h r top next P u2:Nat} (C:S<(h*2^32+u2+1)*P) (A:(top*2^32+next)*P≤W) (B:g*top+r=h) (D:r*2^32+u2<g*next):S<g*W:=by
 have h1:h*2^32+u2+1≤g*(top*2^32+next):=by
  rw[← B,aE,aL,← ar];omega
 have h2:(h*2^32+u2+1)*P≤g*(top*2^32+next)*P:=au _ h1;have h3:g*((top*2^32+next)*P)≤g*W:=aB _ A;rw[← ar] at h3;omega
theorem qN {S W g:Nat} (A:S<2^32*W) (B:2^32≤g):S<g*W:=
 aj A (au _ B)
/-- The last guess is at most by one too great. -/
theorem q1n {S W g h r top next P u2:Nat} (J:(h*2^32+u2)*P≤S) (B:W<(top*2^32+next+1)*P) (D:2^32*P≤W) (E:g*top+r=h) (A:g<2^32) (K:g*next≤r*2^32+u2):g*W<S+W:=by
 have h1:g*(top*2^32+next)≤h*2^32+u2:=by
  rw[← E,aE,aL,← ar];omega
 have h2:g*(top*2^32+next)*P≤(h*2^32+u2)*P:=au _ h1;have h3:g*W≤g*((top*2^32+next+1)*P):=aB _ (dc B);have F:g*((top*2^32+next+1)*P)=g*(top*2^32+next)*P+g*P:=by
  rw[← ar,aE g,bV,aL]
 have I:0<P:=by
  rcases cm P with rfl|h
  ·simp at B
  ·exact h
 have C:(g+1)*P≤2^32*P:=au _ A;rw[aL,aT] at C;omega
/-- Where the rest has grown past a word, all is well. -/
theorem q1m {g h r top u1 next u2:Nat} (E:h≤top*2^32+u1) (B:u1<2^32) (D:g*top+r=h) (A:2^32≤r) (F:next<2^32):g<2^32∧g*next≤r*2^32+u2:=by
 have h1:g*top<2^32*top:=by rw[aJ (2^32)];omega
 have h2:g<2^32:=bJ h1;refine⟨h2,?_⟩;have h3:g*next≤2^32*2^32:=bF eX eX
 have C:2^32*2^32≤r*2^32:=au _ A;omega
/-! Taking away. -/
theorem q19 {us v:List Nat} {j i g c d x y r c' d' A:Nat} (hi:j+i<us.length) (C:us.getD (j+i) 0=x) (D:v.getD i 0=y)
  (h:val us+2^(32*j)*(g*val (v.take i))=A+2^(32*(j+i))*(c+d)) (B:r+g*y+c+d=x+2^32*(c'+d')):
  val (us.set (j+i) r)+2^(32*j)*(g*val (v.take (i+1)))=A+2^(32*(j+(i+1)))*(c'+d'):=by
 have h1:=lM (r:=r) hi;rw[C] at h1;rw[fi v,D,aE g,aE (2^(32*j)),show 2^(32*j)*(g*(2^(32*i)*y))=2^(32*(j+i))*(g*y) from by
  rw[aE,ah,ar,db g]]
 rw[show 32*(j+(i+1))=32*(j+i)+32 from by omega,ah,ar];have h3:2^(32*(j+i))*(r+g*y+c+d)=2^(32*(j+i))*(x+2^32*(c'+d')):=by rw[B]
 generalize 2^(32*(j+i))=p at *;rw[aE p,aE p,aE p,aE p] at h3;rw[aE p] at h;omega
theorem q2f {us:List Nat} {j n g c d x r d' A V:Nat} (hi:j+n<us.length) (C:us.getD (j+n) 0=x)
  (h:val us+2^(32*j)*(g*V)=A+2^(32*(j+n))*(c+d)) (B:r+c+d=x+2^32*d'):
  val (us.set (j+n) r)+g*(2^(32*j)*V)=A+2^(32*(j+n+1))*d':=by
 have h1:=lM (r:=r) hi;rw[C] at h1;rw[show 32*(j+n+1)=32*(j+n)+32 from by omega,ah,ar,db g];have h3:2^(32*(j+n))*(r+c+d)=2^(32*(j+n))*(x+2^32*d'):=by rw[B]
 generalize 2^(32*(j+n))=p at *;rw[aE p,aE p,aE p] at h3;rw[aE p] at h;omega
theorem q1a {us v:List Nat} {j i c x y r c' A:Nat} (hi:j+i<us.length) (C:us.getD (j+i) 0=x) (D:v.getD i 0=y)
  (h:val us+2^(32*(j+i))*c=A+2^(32*j)*val (v.take i)) (B:c+(x+y)=r+2^32*c'):
  val (us.set (j+i) r)+2^(32*(j+(i+1)))*c'=A+2^(32*j)*val (v.take (i+1)):=by
 have h1:=lM (r:=r) hi;rw[C] at h1;rw[fi v,D,aE (2^(32*j)),show 2^(32*j)*(2^(32*i)*y)=2^(32*(j+i))*y from by
  rw[aE,ah,ar]]
 rw[show 32*(j+(i+1))=32*(j+i)+32 from by omega,ah,ar];have h3:2^(32*(j+i))*(c+(x+y))=2^(32*(j+i))*(r+2^32*c'):=by rw[B]
 generalize 2^(32*(j+i))=p at *;rw[aE p,aE p,aE p] at h3;omega
theorem q2h {us:List Nat} {j n c x r k A V:Nat} (hi:j+n<us.length) (C:us.getD (j+n) 0=x)
  (h:val us+2^(32*(j+n))*c=A+2^(32*j)*V) (B:x+c=r+2^32*k):
  val (us.set (j+n) r)+2^(32*(j+n+1))*k=A+2^(32*j)*V:=by
 have h1:=lM (r:=r) hi;rw[C] at h1;rw[show 32*(j+n+1)=32*(j+n)+32 from by omega,ah,ar];have h3:2^(32*(j+n))*(x+c)=2^(32*(j+n))*(r+2^32*k):=by rw[B]
 generalize 2^(32*(j+n))=p at *;rw[aE p,aE p] at h3;omega
/-- A row whose upper words are nought is below the power. -/
theorem mO {l:List Nat} {k:Nat} (h:okw l) (A:val (l.drop k)=0):val l<2^(32*k):=by
 rw[iD h] at A;exact(Nat.div_eq_zero_iff.1 A).resolve_left (by have:=ae (32*k);omega)
theorem iV {l:List Nat} {p k r:Nat} (h:p<k):(l.set p r).drop k=l.drop k:=cA h
/-- A digit that was right. -/
theorem qD {S g W R d' T:Nat} (A:S<(g+1)*W) (h:R+g*W=S+T*d') (B:d'=0):R+g*W=S∧R<W:=by
 subst B;rw[bG] at h;rw[aL,aT] at A;omega
/-- A digit that was by one too great: what comes of it behind the giving back. -/
theorem se {S g W R A T k:Nat} (D:S<(g+1)*W) (K:g*W<S+W) (h:R+g*W=S+T) (J:R<T) (hb:A+T*k=R+W) (C:A<T) (E:W≤T):
  A+(g-1)*W=S∧A<W∧0<g:=by
 have F:0<g:=by
  rcases cm g with rfl|B
  ·rw[bL] at h;omega
  ·exact B
 have h1:(g-1)*W+W=g*W:=by
  obtain⟨t,rfl⟩:∃ t,g=t+1:=⟨g-1,by omega⟩;rw[eh,aL,aT]
 have I:k=1:=by
  rcases k with _|_|k
  ·rw[bG] at hb;omega
  ·rfl
  ·exfalso;have:T*2≤T*(k+1+1):=aB _ eX;omega
 subst I;rw[bV] at hb;rw[aL,aT] at D;omega
/-- One digit of the quotient more. -/
theorem oM {us B C:List Nat} {j q V A:Nat} (D:j<C.length) (h:val us+val (C.drop (j+1))*(2^(32*(j+1))*V)=A) (E:val B+q*(2^(32*j)*V)=val us):
  val B+val ((C.set j q).drop j)*(2^(32*j)*V)=A:=by
 rw[fD (l:=C.set j q) (by simpa using D),fB D,cA eX];show val B+(q+2^32*val (C.drop (j+1)))*(2^(32*j)*V)=A;rw[aL,← h,← E,show 32*(j+1)=32+32*j from by omega,ah];generalize val (C.drop (j+1))=z;generalize 2^(32*j)=p;have e:2^32*z*(p*V)=z*(2^32*p*V):=by
  rw[ar (2^32) p,aJ (2^32) z,ar]
 rw[e];omega
end Go.Proofs.YtohcneeihdkfgaaGreatDoor
