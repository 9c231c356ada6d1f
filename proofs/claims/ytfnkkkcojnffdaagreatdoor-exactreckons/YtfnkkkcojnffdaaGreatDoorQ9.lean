/- What is proved here: contracts of package exact: how two numbers stand to each other, over this seat's translation.
What is proved here: contracts of the reference's big numbers, rows of words: trim, words, cmp, over this seat's translation.
What is proved here: contracts of the reference's big numbers: add, sub, over this seat's translation.
What is proved here: contracts of the reference's big numbers: sub, over this seat's translation.
What is proved here: contracts of the reference's big numbers: mul, over this seat's translation.
What is proved here: contracts of the reference's big numbers: plain, left, right, small, over this seat's translation.
What is proved here: contracts of the reference's big numbers: right, small, over this seat's translation.
What is proved here: contracts of the reference's big numbers: small, over this seat's translation.
What is proved here: contracts of the reference's big numbers: length, twin, over this seat's translation.
What is proved here: plain facts on the digits of a long division (no program). -/
import Derived.Test.YtfnkkkcojnffdaaGreatDoorQ1
import Derived.Test.YtfnkkkcojnffdaaGreatDoorQ8
import Derived.Test.YtfnkkkcojnffdaaGreatDoorQ3
import Derived.Test.YtfnkkkcojnffdaaGreatDoorQ4
namespace Go.Proofs.YtfnkkkcojnffdaaGreatDoor.EN
open Go.ChangeShapes Go.WideShapes Go.ChangeAt Go.RowKit
def cmpV (a b:Nat):Int:=if a<b then -1 else if a=b then 0 else 1
def cmpZ (a b:Int):Int:=if a<b then -1 else if a=b then 0 else 1
theorem qR (x:Int) (w:World):Calls Tryz.prog 179 #[.int .i64 x] w fun e A=>e= .returned (.bool false)∧G w A:=by
 have t:(x != x)=false:=by simp
 go_enter Tryz.func179,Tryz.ntmps179;go_wp2;go_ret;exact⟨rfl,ag _⟩
theorem kH (x y:Int) (w:World):Calls Tryz.prog 131 #[.int .i64 x,.int .i64 y] w fun e C=>e= .returned (.int .i64 (cmpZ x y))∧G w C:=by
 have K:Hid _:=fun x w=>qR x w;unfold cmpZ;by_cases h1:x<y
 ·rw[if_pos h1];have t1:decide (x<y)=true:=decide_eq_true h1;clear h1;go_enter Tryz.func131,Tryz.ntmps131;go_wp2_with (first|(go_at_call 179;refine(K.out _ _).mono ?_;rintro e B ⟨rfl,A⟩));go_ret;exact⟨rfl,lT⟩
 ·rw[if_neg h1];have t1:decide (x<y)=false:=decide_eq_false h1;by_cases h2:x=y
  ·rw[if_pos h2];have t2:decide (y<x)=false:=decide_eq_false eK;clear h1 h2;go_enter Tryz.func131,Tryz.ntmps131;go_wp2_with (first|(go_at_call 179;refine(K.out _ _).mono ?_;rintro e B ⟨rfl,A⟩));go_ret;exact⟨rfl,lT⟩
  ·rw[if_neg h2];have t2:decide (y<x)=true:=decide_eq_true eK;clear h1 h2;go_enter Tryz.func131,Tryz.ntmps131;go_wp2_with (first|(go_at_call 179;refine(K.out _ _).mono ?_;rintro e B ⟨rfl,A⟩));go_ret;exact⟨rfl,lT⟩
theorem qS (x:Int) (w:World):Calls Tryz.prog 180 #[.int .u64 x] w fun e A=>e= .returned (.bool false)∧G w A:=by
 have t:(x != x)=false:=by simp
 go_enter Tryz.func180,Tryz.ntmps180;go_wp2;go_ret;exact⟨rfl,ag _⟩
theorem kI (x y:Int) (w:World):Calls Tryz.prog 132 #[.int .u64 x,.int .u64 y] w fun e C=>e= .returned (.int .i64 (cmpZ x y))∧G w C:=by
 have K:Hid _:=fun x w=>qS x w;unfold cmpZ;by_cases h1:x<y
 ·rw[if_pos h1];have t1:decide (x<y)=true:=decide_eq_true h1;clear h1;go_enter Tryz.func132,Tryz.ntmps132;go_wp2_with (first|(go_at_call 180;refine(K.out _ _).mono ?_;rintro e B ⟨rfl,A⟩));go_ret;exact⟨rfl,lT⟩
 ·rw[if_neg h1];have t1:decide (x<y)=false:=decide_eq_false h1;by_cases h2:x=y
  ·rw[if_pos h2];have t2:decide (y<x)=false:=decide_eq_false eK;clear h1 h2;go_enter Tryz.func132,Tryz.ntmps132;go_wp2_with (first|(go_at_call 180;refine(K.out _ _).mono ?_;rintro e B ⟨rfl,A⟩));go_ret;exact⟨rfl,lT⟩
  ·rw[if_neg h2];have t2:decide (y<x)=true:=decide_eq_true eK;clear h1 h2;go_enter Tryz.func132,Tryz.ntmps132;go_wp2_with (first|(go_at_call 180;refine(K.out _ _).mono ?_;rintro e B ⟨rfl,A⟩));go_ret;exact⟨rfl,lT⟩
theorem iz (w:World) (va vb:Value) (a b K:Nat) (hK:K≤1048576) (ha:Num w va a) (hb:Num w vb b) (s:a<2^(64*K)) (al:b<2^(64*K)):
  Calls Tryz.prog 77 #[va,vb] w fun e w'=>e= .returned (.int .i64 (cmpV a b))∧G w w':=by
 obtain⟨l,hl,Z,rfl⟩:=ha;obtain⟨m,hm,c,rfl⟩:=hb;have cc:=eQ Z s;have cd:=eQ c al;clear s al;have ao:=hl.1;have ap:=hm.1;obtain⟨pa,ca,rfl,bs,bl⟩:=fa hl;obtain⟨pb,cb,rfl,bu,bn⟩:=fa hm;have HA:=hi9 bl;have HB:=hi9 bn;clear bl bn hl hm;by_cases d:l.length=m.length
 ·generalize hn:m.length=n at *;have HN:=hi9 d;have HM:=hi9 hn;rw[d];have ds:(n:Int)≤1048576:=by omega
  have ea:((n:Int) != (n:Int))=false:=by simp
  clear d hn cc cd bs bu;go_enter Tryz.func77,Tryz.ntmps77;go_wp2
  go_loopw [5] (fun vk wr=>∃ k:Nat,k≤n∧vk= .int .i64 ((k:Int)-1)∧val (l.drop k)=val (m.drop k)∧G w wr) (fun vk _=>(intOf vk+1).toNat)
  case atStart=>exact⟨n,az _,rfl,by rw[List.drop_of_length_le (by rw[HN.out];exact az _),List.drop_of_length_le (by rw[HM.out];exact az _)],ag _⟩
  case round=>
   obtain⟨k,hk,rfl,hv,O⟩:=hrel;have HV:=hi9 hv;clear hv;cases k with
   |zero=>
    go_wp2;go_ret;have dl:val l=val m:=by have:=HV.out;simpa using this
    exact⟨ft (by unfold cmpV;rw[if_neg eK,if_pos dl]),O⟩
   |succ k=>
    obtain⟨E,i,rfl,X,R⟩:=HA.out k (by rw[HN.out];omega);obtain⟨F,j,rfl,Y,S⟩:=HB.out k eK;have C:=O.cell (p:=⟨E,i+k,none⟩) X R;have D:=O.cell (p:=⟨F,j+k,none⟩) Y S;have M:E<wr.heap.size:=ae X O.size;have N:F<wr.heap.size:=ae Y O.size;clear R S X Y;have I:k<l.length:=by rw[HN.out];omega
    have J:k<m.length:=by rw[HM.out];omega
    have L:=jZ ao I J HV.out;have an:=jZ ap J I HV.out.symm;have am:l.getD k 0=m.getD k 0→val (l.drop k)=val (m.drop k):=by
     intro h;rw[fb I,fb J,h];show _+2^64*_=_+2^64*_;rw[HV.out]
    generalize l.getD k 0=x at *;generalize m.getD k 0=y at *;have H1:=hi9 L;have H2:=hi9 an;have H3:=hi9 am;clear L an am I J;by_cases dq:x=y
    ·subst dq;have ht:((x:Int) != x)=false:=by simp
     go_wp2_with fail;refine eV eM eM ?_;intro W hW;have ce:=ik (w:=W) ⟨E,i+k,none⟩ (.int .u64 (x:Int));have ci:=ik (w:=W) ⟨F,j+k,none⟩ (.int .u64 (x:Int));clear hW
     repeat (go_big_quiet_step (fail))
     refine wpQuiet_nil ?_;clear ce ci;intro o A;clear C D;go_wp2
     go_roundw
     case rel=>exact⟨k,by omega,by congr 1,H3.out (by trivial),aa O A⟩
     case measure=>simp [intOf]
    ·have ht:((x:Int) != y)=true:=by simp;omega
     by_cases hx:x<y
     ·have bq:(x:Int)<y:=by omega
      go_wp2_with fail;refine eV eM eM ?_;intro W hW;have cl:=ik (w:=W) ⟨E,i+k,none⟩ (.int .u64 (x:Int));have cm:=ik (w:=W) ⟨F,j+k,none⟩ (.int .u64 (y:Int));clear hW
      repeat (go_big_quiet_step (fail))
      refine wpQuiet_nil ?_;clear cl cm;intro o A;have bv:=A.cell M C;have bz:=A.cell N D;have cz:E<o.heap.size:=ae M A.size;have dk:F<o.heap.size:=ae N A.size;clear C D;go_wp2_with fail;refine eV eM eM ?_;intro W hW;have cn:=ik (w:=W) ⟨E,i+k,none⟩ (.int .u64 (x:Int));have cr:=ik (w:=W) ⟨F,j+k,none⟩ (.int .u64 (y:Int));clear hW
      repeat (go_big_quiet_step ((go_at_call 132;exact jg (kI _ _ _))))
      refine wpQuiet_nil ?_;clear cn cr;intro w2 B;go_wp2_with fail;go_ret;have:=H1.out hx;exact⟨ft (by unfold cmpV cmpZ;rw[if_pos this,if_pos bq]),aa (aa O A) B⟩
     ·have bq:¬ (x:Int)<y:=by omega
      go_wp2_with fail;refine eV eM eM ?_;intro W hW;have cs:=ik (w:=W) ⟨E,i+k,none⟩ (.int .u64 (x:Int));have cx:=ik (w:=W) ⟨F,j+k,none⟩ (.int .u64 (y:Int));clear hW
      repeat (go_big_quiet_step (fail))
      refine wpQuiet_nil ?_;clear cs cx;intro o A;have bv:=A.cell M C;have bz:=A.cell N D;have cz:E<o.heap.size:=ae M A.size;have dk:F<o.heap.size:=ae N A.size;clear C D;go_wp2_with fail;refine eV eM eM ?_;intro W hW;have cy:=ik (w:=W) ⟨E,i+k,none⟩ (.int .u64 (x:Int));have bi:=ik (w:=W) ⟨F,j+k,none⟩ (.int .u64 (y:Int));clear hW
      repeat (go_big_quiet_step ((go_at_call 132;exact jg (kI _ _ _))))
      refine wpQuiet_nil ?_;clear cy bi;intro w2 B;go_wp2_with fail;go_ret;have:=H2.out eK;exact⟨ft (by unfold cmpV cmpZ;rw[if_neg eK,if_neg eK,if_neg eK,if_neg eK]),aa (aa O A) B⟩
 ·have h1:=fun h=>fH Z c h;have h2:=fun h=>fH c Z h;have dr:((l.length:Int) != (m.length:Int))=true:=by simp;omega
  by_cases L:l.length<m.length
  ·have hv:cmpV (val l) (val m)= -1:=by unfold cmpV;rw[if_pos (h1 L)]
   rw[hv];clear h1 h2 hv;generalize l.length=n at *;generalize m.length=k at *;have hz:cmpZ (n:Int) k= -1:=by unfold cmpZ;rw[if_pos eK]
   go_enter Tryz.func77,Tryz.ntmps77;go_wp2_with fail;refine(kH n k _).mono ?_;rintro e w2 ⟨rfl,B⟩;go_wp2_with fail;go_ret;exact⟨ft (by first|rfl|exact hz),B⟩
  ·have U:m.length<l.length:=by omega
   have hv:cmpV (val l) (val m)=1:=by unfold cmpV;rw[if_neg (by have:=h2 U;omega),if_neg (by have:=h2 U;omega)]
   rw[hv];clear h1 h2 hv;generalize l.length=n at *;generalize m.length=k at *;have hz:cmpZ (n:Int) k=1:=by unfold cmpZ;rw[if_neg eK,if_neg eK]
   go_enter Tryz.func77,Tryz.ntmps77;go_wp2_with fail;refine(kH n k _).mono ?_;rintro e w2 ⟨rfl,B⟩;go_wp2_with fail;go_ret;exact⟨ft (by first|rfl|exact hz),B⟩
end Go.Proofs.YtfnkkkcojnffdaaGreatDoor.EN
namespace Go.Proofs.YtfnkkkcojnffdaaGreatDoor
open Go.ChangeShapes Go.WideShapes Go.ChangeAt Go.RowKit
open BN
theorem Sl.cases {w:World} {v:Value} {l:List Nat} (h:Sl w v l):
  (l=[]∧∃ a c,v= .slice a 0 c)∨(l≠[]∧∃ b o c,v= .slice (some ⟨b,o,none⟩) l.length c∧l.length≤c∧b<w.heap.size∧Row w b o l):=by
 obtain⟨-,h|⟨b,o,c,e,B,hb,C⟩⟩:=h
 ·exact Or.inl h
 ·by_cases A:l=[]
  ·subst A;exact Or.inl ⟨rfl,_,c,e⟩
  ·exact Or.inr ⟨A,b,o,c,e,B,hb,C⟩
theorem jB {l:List Nat} (h:okw l) (k:Nat) (E:k<l.length) (D:l.getD k 0≠0):canon (l.take (k+1)):=by
 refine⟨gT h _,fun C=> ?_⟩;have e:=gO E;have:(l.take (k+1)).getLast C=l.getD k 0:=by
  have:∀ (m:List Nat) (B:m≠[]),m=l.take k++[l.getD k 0]→m.getLast B=l.getD k 0:=by
   intro m B A;subst A;simp
  exact this _ C e
 rw[this];exact D
theorem trim_c (w:World) (v:Value) (l:List Nat) (K:Sl w v l) (m:l.length≤1048576):
  Calls Tryz.prog 173 #[v] w (eU w (val l)):=by
 have F:=K.1;rcases Sl.cases K with ⟨rfl,a,c,rfl⟩|⟨Y,b,o,c,rfl,Z,hb,S⟩
 ·cases a
  all_goals
   go_enter Tryz.func173,Tryz.ntmps173;go_wp2;refine wp_loop_rounds 1 ?_;rw[rounds_succ];go_wp2;go_ret;exact⟨_,rfl,ag _,[],⟨gG,Or.inl ⟨rfl,_,_,rfl⟩⟩,gh,rfl⟩
 ·generalize R:l.length=n at *;have N:=hi9 S;have E:=hi9 R;clear S R K;go_enter Tryz.func173,Tryz.ntmps173;go_wp2
  go_loop [3] (fun M=>∃ k:Nat,k≤n∧M= .int .i64 k∧val (l.take k)=val l) (fun M=>(intOf M).toNat)
  case atStart=>exact⟨n,az _,rfl,by rw[← E.out,List.take_length]⟩
  case round=>
   obtain⟨k,j,rfl,hv⟩:=hrel;have I:=hi9 hv;clear hv;cases k with
   |zero=>
    go_wp2;go_ret;have L:val l=0:=by rw[← I.out];simp [val]
    exact⟨_,rfl,ag _,[],⟨gG,Or.inl ⟨rfl,_,_,rfl⟩⟩,gh,by rw[L];rfl⟩
   |succ k=>
    have C:=N.out k (by rw[E.out];omega);have D:k<l.length:=by rw[E.out];omega
    have B:=fS D;have A:=jB F k D;generalize l.getD k 0=d at C B A;by_cases O:d=0
    ·subst O;have W:=hi9 B;clear B A D;go_wp2
     go_round
     case rel=>exact⟨k,by omega,by go_num,by rw[← I.out,W.out];simp⟩
     case measure=>simp [intOf]
    ·have X:((d:Int)==0)=false:=by simp;omega
     have U:=hi9 A;clear B A;go_wp2;go_ret;refine⟨_,rfl,ag _,l.take (k+1),⟨gT F _,Or.inr ⟨b,o,c,?_,?_,hb,fun i hi=> ?_⟩⟩,U.out O,I.out⟩
     ·rw[bj,E.out,bM eK];simp
     ·rw[bj];omega
     ·have J:i<k+1:=by rw[bj] at hi;omega
      have:=N.out i (by rw[E.out];omega);rw[this]
      congr 3
      rw[ad,ad,eE J]
theorem q3s (w:World) (d0 d1:Nat) (e:TypeId) (B:d0<2^32) (h1:d1<2^32):
  Sl (w.alloc (.cells #[.int .u32 (d0:Int),.int .u32 (d1:Int)] e)) (.slice (some ⟨w.heap.size,0,none⟩) 2 2) [d0,d1]:=by
 refine⟨fun d A=> ?_,Or.inr ⟨w.heap.size,0,2,rfl,az _,by simp,fun i hi=> ?_⟩⟩
 ·simp at A;rcases A with rfl|rfl<;>assumption
 ·rw[aD,World.cell?_alloc_at _ _ _ _ rfl];have:i=0∨i=1:=by simp at hi;omega
  rcases this with rfl|rfl<;>rfl
theorem jv (w:World) (x:Nat) (I:x<2^64):
  Calls Tryz.prog 151 #[.int .u64 x] w (eU w x):=by
 have D:IntKind.u32.wrap (x:Int)=((x%2^32:Nat):Int):=by rw[IntKind.wrap_u32];omega
 have E:IntKind.u32.wrap ((x:Int)/4294967296)=((x/2^32:Nat):Int):=by rw[IntKind.wrap_u32];omega
 have hv:val [x%2^32,x/2^32]=x:=by simp [val];omega
 have C:Hid _:=fun w=>trim_c _ _ _ (q3s w (x%2^32) (x/2^32) 149 eK eK) fI;rw[hv] at C;generalize x%2^32=d0 at *;generalize x/2^32=d1 at *;clear hv;go_enter Tryz.func151,Tryz.ntmps151;go_wp2_with fail;refine(C.out w).mono ?_;rintro e J ⟨F,rfl,A,B⟩;go_wp2;go_ret;exact⟨F,rfl,aa ((ag _).alloc _) A,B⟩
def cmpV (a b:Nat):Int:=if a<b then -1 else if a=b then 0 else 1
/-- The cells of a slice, in a form that serves the empty one too. -/
theorem fa {w:World} {v:Value} {l:List Nat} (h:Sl w v l):∃ a c,v= .slice a l.length c∧l.length≤c∧∀ i,i<l.length→∃ b o,a=some ⟨b,o,none⟩∧b<w.heap.size∧w.cell? ⟨b,o+i,none⟩=some (.int .u32 (l.getD i 0:Nat)):=by
 rcases Sl.cases h with ⟨rfl,a,c,rfl⟩|⟨B,b,o,c,rfl,A,hb,C⟩
 ·exact⟨a,c,rfl,bC _,fun i hi=>by simp at hi⟩
 ·exact⟨_,c,rfl,A,fun i hi=>⟨b,o,rfl,hb,C i hi⟩⟩
theorem iz (w:World) (va vb:Value) (a b K:Nat) (hK:K≤1048576) (ha:Num w va a) (hb:Num w vb b) (s:a<2^(32*K)) (al:b<2^(32*K)):
  Calls Tryz.prog 125 #[va,vb] w fun e w'=>e= .returned (.int .i64 (cmpV a b))∧G w w':=by
 obtain⟨l,hl,Y,rfl⟩:=ha;obtain⟨m,hm,Z,rfl⟩:=hb;have cc:=eQ Y s;have cd:=eQ Z al;clear s al;have ap:=hl.1;have bi:=hm.1;obtain⟨pa,ca,rfl,bs,bn⟩:=fa hl;obtain⟨pb,cb,rfl,bu,bq⟩:=fa hm;have HA:=hi9 bn;have HB:=hi9 bq;clear bn bq hl hm;by_cases c:l.length=m.length
 ·generalize hn:m.length=n at *;have HN:=hi9 c;have HM:=hi9 hn;rw[c];have ea:(n:Int)≤1048576:=by omega
  have eb:((n:Int) != (n:Int))=false:=by simp
  clear c hn cc cd bs bu;go_enter Tryz.func125,Tryz.ntmps125;go_wp2
  go_loopw [5] (fun vk wr=>∃ k:Nat,k≤n∧vk= .int .i64 ((k:Int)-1)∧val (l.drop k)=val (m.drop k)∧G w wr) (fun vk _=>(intOf vk+1).toNat)
  case atStart=>exact⟨n,az _,rfl,by rw[List.drop_of_length_le (by rw[HN.out];exact az _),List.drop_of_length_le (by rw[HM.out];exact az _)],ag _⟩
  case round=>
   obtain⟨k,hk,rfl,hv,N⟩:=hrel;have HV:=hi9 hv;clear hv;cases k with
   |zero=>
    go_wp2;go_ret;have dl:val l=val m:=by have:=HV.out;simpa using this
    exact⟨ft (by unfold cmpV;rw[if_neg eK,if_pos dl]),N⟩
   |succ k=>
    obtain⟨D,i,rfl,U,O⟩:=HA.out k (by rw[HN.out];omega);obtain⟨E,j,rfl,X,R⟩:=HB.out k eK;have B:=N.cell (p:=⟨D,i+k,none⟩) U O;have C:=N.cell (p:=⟨E,j+k,none⟩) X R;have L:D<wr.heap.size:=ae U N.size;have M:E<wr.heap.size:=ae X N.size;clear O R U X;have F:k<l.length:=by rw[HN.out];omega
    have I:k<m.length:=by rw[HM.out];omega
    have J:=jZ ap F I HV.out;have an:=jZ bi I F HV.out.symm;have am:l.getD k 0=m.getD k 0→val (l.drop k)=val (m.drop k):=by
     intro h;rw[fb F,fb I,h];show _+2^32*_=_+2^32*_;rw[HV.out]
    generalize l.getD k 0=x at *;generalize m.getD k 0=y at *;have H1:=hi9 J;have H2:=hi9 an;have H3:=hi9 am;clear J an am F I;by_cases dr:x=y
    ·subst dr;have ht:((x:Int) != x)=false:=by simp
     go_wp2_with fail;refine eV eM eM ?_;intro W hW;have ce:=ik (w:=W) ⟨D,i+k,none⟩ (.int .u32 (x:Int));have ci:=ik (w:=W) ⟨E,j+k,none⟩ (.int .u32 (x:Int));clear hW
     repeat (go_big_quiet_step (fail))
     refine wpQuiet_nil ?_;clear ce ci;intro o A;clear B C;go_wp2
     go_roundw
     case rel=>exact⟨k,by omega,by congr 1,H3.out (by trivial),aa N A⟩
     case measure=>simp [intOf]
    ·have ht:((x:Int) != y)=true:=by simp;omega
     by_cases hx:x<y
     ·have dq:(x:Int)<y:=by omega
      go_wp2_with fail;refine eV eM eM ?_;intro W hW;have cl:=ik (w:=W) ⟨D,i+k,none⟩ (.int .u32 (x:Int));have cm:=ik (w:=W) ⟨E,j+k,none⟩ (.int .u32 (y:Int));clear hW
      repeat (go_big_quiet_step (fail))
      refine wpQuiet_nil ?_;clear cl cm;intro o A;have bv:=A.cell L B;have bz:=A.cell M C;have cz:D<o.heap.size:=ae L A.size;have dk:E<o.heap.size:=ae M A.size;clear B C;go_wp2_with fail;refine eV eM eM ?_;intro W hW;have cn:=ik (w:=W) ⟨D,i+k,none⟩ (.int .u32 (x:Int));have cr:=ik (w:=W) ⟨E,j+k,none⟩ (.int .u32 (y:Int));clear hW
      repeat (go_big_quiet_step (fail))
      refine wpQuiet_nil ?_;clear cn cr;intro w2 d;go_wp2;go_ret;have:=H1.out hx;exact⟨ft (by unfold cmpV;rw[if_pos this]),aa (aa N A) d⟩
     ·have dq:¬ (x:Int)<y:=by omega
      go_wp2_with fail;refine eV eM eM ?_;intro W hW;have cs:=ik (w:=W) ⟨D,i+k,none⟩ (.int .u32 (x:Int));have cx:=ik (w:=W) ⟨E,j+k,none⟩ (.int .u32 (y:Int));clear hW
      repeat (go_big_quiet_step (fail))
      refine wpQuiet_nil ?_;clear cs cx;intro o A;have bv:=A.cell L B;have bz:=A.cell M C;have cz:D<o.heap.size:=ae L A.size;have dk:E<o.heap.size:=ae M A.size;clear B C;go_wp2_with fail;refine eV eM eM ?_;intro W hW;have cy:=ik (w:=W) ⟨D,i+k,none⟩ (.int .u32 (x:Int));have bl:=ik (w:=W) ⟨E,j+k,none⟩ (.int .u32 (y:Int));clear hW
      repeat (go_big_quiet_step (fail))
      refine wpQuiet_nil ?_;clear cy bl;intro w2 d;go_wp2;go_ret;have:=H2.out eK;exact⟨ft (by unfold cmpV;rw[if_neg eK,if_neg eK]),aa (aa N A) d⟩
 ·have h1:=fun h=>fH Y Z h;have h2:=fun h=>fH Z Y h;have ds:((l.length:Int) != (m.length:Int))=true:=by simp;omega
  by_cases J:l.length<m.length
  ·have hv:cmpV (val l) (val m)= -1:=by unfold cmpV;rw[if_pos (h1 J)]
   rw[hv];clear h1 h2 hv;generalize l.length=n at *;generalize m.length=k at *;have ao:(n:Int)<k:=by omega
   go_enter Tryz.func125,Tryz.ntmps125;go_wp2;go_ret;exact⟨rfl,ag _⟩
  ·have S:m.length<l.length:=by omega
   have hv:cmpV (val l) (val m)=1:=by unfold cmpV;rw[if_neg (by have:=h2 S;omega),if_neg (by have:=h2 S;omega)]
   rw[hv];clear h1 h2 hv;generalize l.length=n at *;generalize m.length=k at *;have ao:¬ (n:Int)<k:=by omega
   go_enter Tryz.func125,Tryz.ntmps125;go_wp2;go_ret;exact⟨rfl,ag _⟩
theorem pX:(Tryz.prog.info? 149).map (fun i=>(i.zero,i.size,i.bytes))=some (some (.int .u32 0),1,4):=by kernel_rfl
/-- 'make([]uint32, n)', in every world. -/
theorem gp (n:Nat) (A:n≤2097152) (w:World):(Instr.makeSlice 41 (.int .i64 (n:Int)) (.int .i64 (n:Int))).run Tryz.prog w= .ok (.slice (some ⟨w.heap.size,0,none⟩) n n) (w.alloc (.cells (madeCells #[.int .u32 0] n) 149)):=
 run_make_row' 41 149 (.int .u32 0) 4 Tryz.underlying41 pX rfl .i64 .i64 n eK eK w
/-- One step of a sum. -/
theorem nm {cs l m:List Nat} {k c n:Nat} (E:k<n) (A:cs.length=n+1) (B:okw l) (C:okw m) (D:c≤1)
  (h:val (cs.take k)+2^(32*k)*c=val (l.take k)+val (m.take k)):
  (c+l.getD k 0+m.getD k 0)/2^32≤1∧
  val ((cs.set k ((c+l.getD k 0+m.getD k 0)%2^32)).take (k+1))+2^(32*(k+1))*((c+l.getD k 0+m.getD k 0)/2^32)=val (l.take (k+1))+val (m.take (k+1)):=by
 have h1:=eO B k;have h2:=eO C k;rw[fe eK,eR l,eR m];generalize l.getD k 0=x at *;generalize m.getD k 0=y at *;refine⟨by omega,?_⟩;rw[show 32*(k+1)=32*k+32 from by omega,ah,ak,cC,← aw];have:(c+x+y)%2^32+2^32*((c+x+y)/2^32)=c+x+y:=Nat.mod_add_div _ _;rw[this,aw,aw];omega
/-- A row of our own, trimmed. -/
theorem fF {w:World} {b n:Nat} {cs:List Nat} (h:Own w b cs) (A:cs.length=n) (B:n≤1048576):
  Calls Tryz.prog 173 #[.slice (some ⟨b,0,none⟩) n n] w (eU w (val cs)):=by
 subst A;exact trim_c _ _ _ (h.sl _ (az _)) B
theorem nk (w:World) (va vb:Value) (l m:List Nat) (swap:Bool) (hl:Sl w va l) (hm:Sl w vb m) (bv:m.length≤l.length) (cd:l.length≤1048000) (bs:swap=true→m.length<l.length):
  Calls Tryz.prog 150 (if swap then #[vb,va] else #[va,vb]) w (eU w (val l+val m)):=by
 have I:=hl.1;have J:=hm.1;obtain⟨pa,ca,rfl,bz,ao⟩:=fa hl;obtain⟨pb,cb,rfl,cc,ap⟩:=fa hm;have HA:=hi9 ao;have HB:=hi9 ap;clear ao ap hl hm;generalize hn:l.length=n at *;generalize hj:m.length=j at *;have HN:=hi9 hn;have HJ:=hi9 hj;clear hn hj;have bq:=gp (n+1) eK;rw[show ((n+1:Nat):Int)=(n:Int)+1 from by omega] at bq;cases swap
 ·show Calls Tryz.prog 150 #[_,_] w _;have t0:¬ (n:Int)<j:=by omega
  go_enter Tryz.func150,Tryz.ntmps150;go_wp2_with fail
  go_loopw [6,7] (fun vc vk wr=>∃ (k c:Nat) (cs:List Nat),k≤n∧vk= .int .i64 k∧vc= .int .u64 c∧c≤1∧cs.length=n+1∧Own wr w.heap.size cs∧val (cs.take k)+2^(32*k)*c=val (l.take k)+val (m.take k)∧G w wr) (fun _ vk _=>n-(intOf vk).toNat)
  case atStart=>exact⟨0,0,List.replicate (n+1) 0,bC _,rfl,rfl,by omega,by simp,fB w (n+1) 149,by simp [val],(ag _).alloc _⟩
  case round=>
   obtain⟨k,c,cs,hk,rfl,rfl,hc,N,D,E,M⟩:=hrel;have HV:=hi9 E;have A:=hi9 N;have F:=hi9 D;clear E N D;have bn:(c:Int)≤1:=by omega
   by_cases O:k<n
   ·obtain⟨b1,o1,rfl,K,B⟩:=HA.out k O;have bi:=M.cell (p:=⟨b1,o1+k,none⟩) K B;clear B K;obtain⟨U,W⟩:=nm O A.out I J hc HV.out;have Y:=hi9 U;have Z:=hi9 W;clear U W;have hx:=eO I k;have hy:=eO J k;have ho:=Own.cell (w:=wr) (b:=w.heap.size) (l:=cs) (i:=k) F.out (by rw[A.out];omega);have hf:=Own.frozen (w:=wr) (b:=w.heap.size) (l:=cs) (i:=k) F.out (by rw[A.out];omega);have bu:((l.getD k 0:Nat):Int)≤4294967295:=by omega
    have an:((m.getD k 0:Nat):Int)≤4294967295:=by omega
    by_cases s:k<j
    ·obtain⟨b2,o2,rfl,L,C⟩:=HB.out k s;have bl:=M.cell (p:=⟨b2,o2+k,none⟩) L C;clear C L;generalize l.getD k 0=x at *;generalize m.getD k 0=y at *;generalize cs.getD k 0=z at *;have hw:IntKind.u32.wrap ((c:Int)+x+y)=(((c+x+y)%2^32:Nat):Int):=by rw[IntKind.wrap_u32];omega
     have am:((c:Int)+x+y)/4294967296=(((c+x+y)/2^32:Nat):Int):=by omega
     have R:(c+x+y)%2^32<2^32:=by omega
     clear hx hy;generalize (c+x+y)%2^32=r at *;generalize (c+x+y)/2^32=q at *;have X:=hi9 R;clear R;go_wp2_with fail
     go_roundw
     case rel=>exact⟨k+1,q,cs.set k r,by omega,by go_num,rfl,Y.out,by rw[ax];exact A.out,Own.set F.out k r (by rw[A.out];omega) X.out,Z.out,M.setCell (az _) _⟩
     case measure=>simp only[intOf];omega
    ·have S:m.getD k 0=0:=by rw[ad,aZ (by rw[HJ.out];omega)];rfl
     rw[S] at Y Z;clear hy an S;generalize l.getD k 0=x at *;generalize cs.getD k 0=z at *;have hw:IntKind.u32.wrap ((c:Int)+x)=(((c+x+0)%2^32:Nat):Int):=by rw[IntKind.wrap_u32];omega
     have am:((c:Int)+x)/4294967296=(((c+x+0)/2^32:Nat):Int):=by omega
     have R:(c+x+0)%2^32<2^32:=by omega
     clear hx;generalize (c+x+0)%2^32=r at *;generalize (c+x+0)/2^32=q at *;have X:=hi9 R;clear R;go_wp2_with fail
     go_roundw
     case rel=>exact⟨k+1,q,cs.set k r,by omega,by go_num,rfl,Y.out,by rw[ax];exact A.out,Own.set F.out k r (by rw[A.out];omega) X.out,Z.out,M.setCell (az _) _⟩
     case measure=>simp only[intOf];omega
   ·obtain rfl:k=n:=by omega
    have ho:=Own.cell (w:=wr) (b:=w.heap.size) (l:=cs) (i:=k) F.out (by rw[A.out];omega);have hf:=Own.frozen (w:=wr) (b:=w.heap.size) (l:=cs) (i:=k) F.out (by rw[A.out];omega);generalize cs.getD k 0=z at *;have hw:IntKind.u32.wrap (c:Int)=(c:Int):=by rw[IntKind.wrap_u32];omega
    have U:Own _ w.heap.size (cs.set k c):=Own.set (F.out:Own wr w.heap.size cs) k c (by rw[A.out];omega) eK;have W:val (cs.set k c)=val l+val m:=by
     have h1:=fe (l:=cs) (k:=k) (x:=c) (by rw[A.out];omega);rw[aC (by rw[ax,A.out];omega)] at h1;rw[h1,HV.out,aC (by rw[HN.out];omega),aC (by rw[HJ.out];omega)]
    have hT:Hid _:=fF U (n:=k+1) (by rw[ax];exact A.out) eK;rw[W] at hT;have d:=M.setCell (p:=⟨w.heap.size,k,none⟩) (az _) (.int .u32 (c:Int));clear U W;go_wp2_with fail;refine Calls.mono (P:=Tryz.prog) hT.out ?_;rintro e w1 ⟨v1,rfl,o,al⟩;go_wp2_with fail;go_ret;exact⟨v1,rfl,aa d o,al⟩
 ·show Calls Tryz.prog 150 #[_,_] w _;have t0:(j:Int)<n:=by have:=bs rfl;omega
  go_enter Tryz.func150,Tryz.ntmps150;go_wp2_with fail
  go_loopw [6,7] (fun vc vk wr=>∃ (k c:Nat) (cs:List Nat),k≤n∧vk= .int .i64 k∧vc= .int .u64 c∧c≤1∧cs.length=n+1∧Own wr w.heap.size cs∧val (cs.take k)+2^(32*k)*c=val (l.take k)+val (m.take k)∧G w wr) (fun _ vk _=>n-(intOf vk).toNat)
  case atStart=>exact⟨0,0,List.replicate (n+1) 0,bC _,rfl,rfl,by omega,by simp,fB w (n+1) 149,by simp [val],(ag _).alloc _⟩
  case round=>
   obtain⟨k,c,cs,hk,rfl,rfl,hc,N,D,E,M⟩:=hrel;have HV:=hi9 E;have A:=hi9 N;have F:=hi9 D;clear E N D;have bn:(c:Int)≤1:=by omega
   by_cases O:k<n
   ·obtain⟨b1,o1,rfl,K,B⟩:=HA.out k O;have bi:=M.cell (p:=⟨b1,o1+k,none⟩) K B;clear B K;obtain⟨U,W⟩:=nm O A.out I J hc HV.out;have Y:=hi9 U;have Z:=hi9 W;clear U W;have hx:=eO I k;have hy:=eO J k;have ho:=Own.cell (w:=wr) (b:=w.heap.size) (l:=cs) (i:=k) F.out (by rw[A.out];omega);have hf:=Own.frozen (w:=wr) (b:=w.heap.size) (l:=cs) (i:=k) F.out (by rw[A.out];omega);have bu:((l.getD k 0:Nat):Int)≤4294967295:=by omega
    have an:((m.getD k 0:Nat):Int)≤4294967295:=by omega
    by_cases s:k<j
    ·obtain⟨b2,o2,rfl,L,C⟩:=HB.out k s;have bl:=M.cell (p:=⟨b2,o2+k,none⟩) L C;clear C L;generalize l.getD k 0=x at *;generalize m.getD k 0=y at *;generalize cs.getD k 0=z at *;have hw:IntKind.u32.wrap ((c:Int)+x+y)=(((c+x+y)%2^32:Nat):Int):=by rw[IntKind.wrap_u32];omega
     have am:((c:Int)+x+y)/4294967296=(((c+x+y)/2^32:Nat):Int):=by omega
     have R:(c+x+y)%2^32<2^32:=by omega
     clear hx hy;generalize (c+x+y)%2^32=r at *;generalize (c+x+y)/2^32=q at *;have X:=hi9 R;clear R;go_wp2_with fail
     go_roundw
     case rel=>exact⟨k+1,q,cs.set k r,by omega,by go_num,rfl,Y.out,by rw[ax];exact A.out,Own.set F.out k r (by rw[A.out];omega) X.out,Z.out,M.setCell (az _) _⟩
     case measure=>simp only[intOf];omega
    ·have S:m.getD k 0=0:=by rw[ad,aZ (by rw[HJ.out];omega)];rfl
     rw[S] at Y Z;clear hy an S;generalize l.getD k 0=x at *;generalize cs.getD k 0=z at *;have hw:IntKind.u32.wrap ((c:Int)+x)=(((c+x+0)%2^32:Nat):Int):=by rw[IntKind.wrap_u32];omega
     have am:((c:Int)+x)/4294967296=(((c+x+0)/2^32:Nat):Int):=by omega
     have R:(c+x+0)%2^32<2^32:=by omega
     clear hx;generalize (c+x+0)%2^32=r at *;generalize (c+x+0)/2^32=q at *;have X:=hi9 R;clear R;go_wp2_with fail
     go_roundw
     case rel=>exact⟨k+1,q,cs.set k r,by omega,by go_num,rfl,Y.out,by rw[ax];exact A.out,Own.set F.out k r (by rw[A.out];omega) X.out,Z.out,M.setCell (az _) _⟩
     case measure=>simp only[intOf];omega
   ·obtain rfl:k=n:=by omega
    have ho:=Own.cell (w:=wr) (b:=w.heap.size) (l:=cs) (i:=k) F.out (by rw[A.out];omega);have hf:=Own.frozen (w:=wr) (b:=w.heap.size) (l:=cs) (i:=k) F.out (by rw[A.out];omega);generalize cs.getD k 0=z at *;have hw:IntKind.u32.wrap (c:Int)=(c:Int):=by rw[IntKind.wrap_u32];omega
    have U:Own _ w.heap.size (cs.set k c):=Own.set (F.out:Own wr w.heap.size cs) k c (by rw[A.out];omega) eK;have W:val (cs.set k c)=val l+val m:=by
     have h1:=fe (l:=cs) (k:=k) (x:=c) (by rw[A.out];omega);rw[aC (by rw[ax,A.out];omega)] at h1;rw[h1,HV.out,aC (by rw[HN.out];omega),aC (by rw[HJ.out];omega)]
    have hT:Hid _:=fF U (n:=k+1) (by rw[ax];exact A.out) eK;rw[W] at hT;have d:=M.setCell (p:=⟨w.heap.size,k,none⟩) (az _) (.int .u32 (c:Int));clear U W;go_wp2_with fail;refine Calls.mono (P:=Tryz.prog) hT.out ?_;rintro e w1 ⟨v1,rfl,o,al⟩;go_wp2_with fail;go_ret;exact⟨v1,rfl,aa d o,al⟩
theorem q3F (w:World) (va vb:Value) (a b K:Nat) (M:K≤1048000) (I:Num w va a) (hb:Num w vb b) (A:a<2^(32*K)) (B:b<2^(32*K)):
  Calls Tryz.prog 150 #[va,vb] w (eU w (a+b)):=by
 obtain⟨l,E,C,rfl⟩:=I;obtain⟨m,F,D,rfl⟩:=hb;have J:=eQ C A;have L:=eQ D B;by_cases h:m.length≤l.length
 ·exact nk w va vb l m false E F h eK fI
 ·rw[bR];exact nk w vb va m l true F E eK eK (fun _=>by omega)
theorem q3R (x c:Nat) (B:x<2^32) (A:c≤1):∃ d r q:Nat,IntKind.u64.wrap ((x:Int)-c)=d∧IntKind.u32.wrap (d:Int)=r∧(d:Int)/9223372036854775808=q∧q≤1∧r<2^32∧x+2^32*q=c+r:=by
 refine⟨(x+2^64-c)%2^64,(x+2^64-c)%2^64%2^32,(x+2^64-c)%2^64/2^63,?_,?_,?_,?_,?_,?_⟩
 ·rw[IntKind.wrap_u64];omega
 ·rw[IntKind.wrap_u32];omega
 all_goals omega
theorem q3x (x c y:Nat) (B:x<2^32) (C:y<2^32) (A:c≤1):∃ d0 d r q:Nat,IntKind.u64.wrap ((x:Int)-c)=d0∧IntKind.u64.wrap ((d0:Int)-y)=d∧IntKind.u32.wrap (d:Int)=r∧(d:Int)/9223372036854775808=q∧q≤1∧r<2^32∧x+2^32*q=c+r+y:=by
 refine⟨(x+2^64-c)%2^64,((x+2^64-c)%2^64+2^64-y)%2^64,((x+2^64-c)%2^64+2^64-y)%2^64%2^32,((x+2^64-c)%2^64+2^64-y)%2^64/2^63,?_,?_,?_,?_,?_,?_,?_⟩
 ·rw[IntKind.wrap_u64];omega
 ·rw[IntKind.wrap_u64];omega
 ·rw[IntKind.wrap_u32];omega
 all_goals omega
/-- One step of a difference. -/
theorem od {cs l m:List Nat} {k c n r q:Nat} (C:k<n) (A:cs.length=n)
  (h:val (l.take k)+2^(32*k)*c=val (cs.take k)+val (m.take k)) (B:l.getD k 0+2^32*q=c+r+m.getD k 0):
  val (l.take (k+1))+2^(32*(k+1))*q=val ((cs.set k r).take (k+1))+val (m.take (k+1)):=by
 rw[fe eK,eR l,eR m];generalize l.getD k 0=x at *;generalize m.getD k 0=y at *;rw[show 32*(k+1)=32*k+32 from by omega,ah,ak,cC,← aw,B,aw,aw];omega
theorem q2x (w:World) (va vb:Value) (a b K:Nat) (hK:K≤1048000) (ha:Num w va a) (hb:Num w vb b) (N:a<2^(32*K)) (O:b≤a):
  Calls Tryz.prog 172 #[va,vb] w (eU w (a-b)):=by
 obtain⟨l,hl,R,rfl⟩:=ha;obtain⟨m,hm,an,rfl⟩:=hb;have cd:=eQ R N;have bq:m.length≤l.length:=by
  by_cases h:m.length≤l.length
  ·exact h
  ·have:=fH R an eK;omega
 clear N;have W:=hl.1;have X:=hm.1;obtain⟨pa,ca,rfl,bv,Z⟩:=fa hl;obtain⟨pb,cb,rfl,bz,o⟩:=fa hm;have HA:=hi9 Z;have HB:=hi9 o;clear Z o hl hm;generalize hn:l.length=n at *;generalize hj:m.length=j at *;have HN:=hi9 hn;have HJ:=hi9 hj;have al:=hi9 O;clear hn hj O;have ce:=gp n eK;go_enter Tryz.func172,Tryz.ntmps172;go_wp2_with fail
 go_loopw [6,7] (fun vc vk wr=>∃ (k c:Nat) (cs:List Nat),k≤n∧vk= .int .i64 k∧vc= .int .u64 c∧c≤1∧cs.length=n∧Own wr w.heap.size cs∧val (l.take k)+2^(32*k)*c=val (cs.take k)+val (m.take k)∧G w wr) (fun _ vk _=>n-(intOf vk).toNat)
 case atStart=>exact⟨0,0,List.replicate n 0,bC _,rfl,rfl,by omega,by simp,fB w n 149,by simp [val],(ag _).alloc _⟩
 case round=>
  obtain⟨k,c,cs,hk,rfl,rfl,hc,S,D,E,M⟩:=hrel;have HV:=hi9 E;have A:=hi9 S;have I:=hi9 D;clear E S D;by_cases F:k<n
  ·obtain⟨b1,o1,rfl,J,B⟩:=HA.out k F;have bs:=M.cell (p:=⟨b1,o1+k,none⟩) J B;clear B J;have hx:=eO W k;have hy:=eO X k;have ho:=Own.cell (w:=wr) (b:=w.heap.size) (l:=cs) (i:=k) I.out (by rw[A.out];omega);have hf:=Own.frozen (w:=wr) (b:=w.heap.size) (l:=cs) (i:=k) I.out (by rw[A.out];omega);have cl:((l.getD k 0:Nat):Int)≤4294967295:=by omega
   have cm:((m.getD k 0:Nat):Int)≤4294967295:=by omega
   have cc:(c:Int)≤1:=by omega
   by_cases ao:k<j
   ·obtain⟨b2,o2,rfl,L,C⟩:=HB.out k ao;have bu:=M.cell (p:=⟨b2,o2+k,none⟩) L C;clear C L;obtain⟨d0,d,r,q,bi,ci,bl,bn,hq,Y,U⟩:=q3x _ c _ hx hy hc;have HS:=hi9 (od F A.out HV.out U);generalize l.getD k 0=x at *;generalize m.getD k 0=y at *;generalize cs.getD k 0=z at *;have HR:=hi9 Y;clear Y U hx hy;go_wp2_with fail
    go_roundw
    case rel=>exact⟨k+1,q,cs.set k r,by omega,by go_num,rfl,hq,by rw[ax];exact A.out,Own.set I.out k r (by rw[A.out];omega) HR.out,HS.out,M.setCell (az _) _⟩
    case measure=>simp only[intOf];omega
   ·have s:m.getD k 0=0:=by rw[ad,aZ (by rw[HJ.out];omega)];rfl
    obtain⟨d,r,q,bi,bl,bn,hq,Y,U⟩:=q3R _ c hx hc;have HS:Hid _:=od (m:=m) F A.out HV.out (by rw[s];exact U);generalize l.getD k 0=x at *;generalize cs.getD k 0=z at *;have HR:=hi9 Y;clear Y U hx hy s;go_wp2_with fail
    go_roundw
    case rel=>exact⟨k+1,q,cs.set k r,by omega,by go_num,rfl,hq,by rw[ax];exact A.out,Own.set I.out k r (by rw[A.out];omega) HR.out,HS.out,M.setCell (az _) _⟩
    case measure=>simp only[intOf];omega
  ·obtain rfl:k=n:=by omega
   have hT:=hi9 (fF (I.out:Own wr w.heap.size cs) A.out eK);have q2:val cs=val l-val m:=by
    have h1:=HV.out;rw[aC (by rw[HN.out];omega),aC (by rw[A.out];omega),aC (by rw[HJ.out];omega)] at h1;have h2:=fm (I.out:Own wr w.heap.size cs).1;rw[A.out] at h2;have h3:=al.out;generalize 2^(32*k)=p at *;rcases(by omega:c=0∨c=1) with rfl|rfl
    ·omega
    ·omega
   rw[q2] at hT;clear q2;go_wp2_with fail;refine Calls.mono (P:=Tryz.prog) hT.out ?_;rintro e w1 ⟨v1,rfl,am,ap⟩;go_wp2_with fail;go_ret;exact⟨v1,rfl,aa M am,ap⟩
theorem gF (w:World) (a:Option Addr) (c:Nat):Num w (.slice a 0 c) 0:=⟨[],⟨gG,Or.inl ⟨rfl,_,_,rfl⟩⟩,gh,rfl⟩
theorem iM (n:Nat):val (List.replicate n 0)=0:=by
 induction n with
 |zero=>rfl
 |succ n A=>rw[ei];simp [val,A]
theorem kc {l:List Nat} {p r:Nat} (h:p<l.length):val (l.set p r)+2^(32*p)*l.getD p 0=val l+2^(32*p)*r:=by
 have h1:=fq (l:=l.set p r) (k:=p) (by simpa using h);have h2:=fq h;rw[fJ,eY h,bU eK] at h1;rw[h1,h2,aw,aw];omega
/-- One step of a product's row. -/
theorem q0k {cs m:List Nat} {i t N c x P r q:Nat} (A:i+t<N) (C:N≤cs.length)
  (h:val (cs.take N)+2^(32*(i+t))*c=P+2^(32*i)*(x*val (m.take t)))
  (B:c+(x*m.getD t 0+cs.getD (i+t) 0)=r+2^32*q):
  val ((cs.set (i+t) r).take N)+2^(32*(i+(t+1)))*q=P+2^(32*i)*(x*val (m.take (t+1))):=by
 have h1:=kc (l:=cs.take N) (p:=i+t) (r:=r) (by rw[bj];omega);rw[List.take_set];have h2:(cs.take N).getD (i+t) 0=cs.getD (i+t) 0:=by
  rw[ad,ad,eE A]
 rw[h2] at h1;rw[eR m,aw x,aw (2^(32*i)),← cC P,← h];rw[show 32*(i+(t+1))=32*(i+t)+32 from by omega,ah,ak];rw[show 2^(32*i)*(x*(2^(32*t)*m.getD t 0))=2^(32*(i+t))*(x*m.getD t 0) from by
  rw[aw,ah,ak,cK x]]
 have h3:2^(32*(i+t))*(c+(x*m.getD t 0+cs.getD (i+t) 0))=2^(32*(i+t))*(r+2^32*q):=by rw[B]
 rw[aw (2^(32*(i+t))),aw (2^(32*(i+t))),aw (2^(32*(i+t)))] at h3;omega
/-- The end of a product's row. -/
theorem q1N {cs l m:List Nat} {i j c P:Nat} (hi:i+j<cs.length) (B:m.length=j)
  (A:P=val (l.take i)*val m)
  (h:val (cs.take (i+j))+2^(32*(i+j))*c=P+2^(32*i)*(l.getD i 0*val (m.take j))):
  val ((cs.set (i+j) c).take (i+1+j))=val (l.take (i+1))*val m:=by
 rw[show i+1+j=i+j+1 from by omega,fe hi,h,aC eK,A,eR l,aJ,ak]
theorem q3N (c x y z:Nat) (A:c<2^32) (B:x<2^32) (C:y<2^32) (D:z<2^32):
  ∃ p r q:Nat,(x:Int)*y=p∧p≤18446744065119617025∧IntKind.u32.wrap ((c:Int)+(p+z))=r∧((c:Int)+(p+z))/4294967296=q∧q<2^32∧r<2^32∧c+(x*y+z)=r+2^32*q:=by
 have h:x*y≤4294967295*4294967295:=bN eK eK;refine⟨x*y,(c+(x*y+z))%2^32,(c+(x*y+z))/2^32,by push_cast;rfl,by omega,?_,?_,?_,?_,?_⟩
 ·rw[IntKind.wrap_u32];generalize x*y=p at *;omega
 all_goals generalize x*y=p at *;omega
theorem q3M (w:World) (va vb:Value) (a b K:Nat) (hK:K≤500000) (ha:Num w va a) (hb:Num w vb b) (U:a<2^(32*K)) (X:b<2^(32*K)):
  Calls Tryz.prog 115 #[va,vb] w (eU w (a*b)):=by
 obtain⟨l,hl,bi,rfl⟩:=ha;obtain⟨m,hm,bl,rfl⟩:=hb;have cr:=eQ bi U;have cx:=eQ bl X;clear U X;have Y:=hl.1;have Z:=hm.1;obtain⟨pa,ca,rfl,ci,d⟩:=fa hl;obtain⟨pb,cb,rfl,cl,k⟩:=fa hm;have HA:=hi9 d;have HB:=hi9 k;clear d k hl hm;generalize hn:l.length=n at *;generalize hj:m.length=j at *;have HN:=hi9 hn;have HJ:=hi9 hj;clear hn hj;by_cases bu:n=0
 ·subst bu;have R:l=[]:=aH HN.out;subst R;go_enter Tryz.func115,Tryz.ntmps115;go_wp2_with fail;go_ret;exact⟨_,rfl,ag _,by rw[show val []=0 from rfl,cw];exact gF _ _ _⟩
 by_cases bq:j=0
 ·subst bq;have R:m=[]:=aH HJ.out;subst R;have t0:((n:Int)==0)=false:=by simp;omega
  go_enter Tryz.func115,Tryz.ntmps115;go_wp2_with fail;go_ret;exact⟨_,rfl,ag _,by rw[show val []=0 from rfl,bm];exact gF _ _ _⟩
 have t0:((n:Int)==0)=false:=by simp;omega
 have t1:((j:Int)==0)=false:=by simp;omega
 have bs:=gp (n+j) eK;rw[show ((n+j:Nat):Int)=(n:Int)+j from by omega] at bs;go_enter Tryz.func115,Tryz.ntmps115;go_wp2_with fail
 go_loopw [6] (fun vk wr=>∃ (i:Nat) (cs:List Nat),i≤n∧vk= .int .i64 i∧cs.length=n+j∧Own wr w.heap.size cs∧val (cs.take (i+j))=val (l.take i)*val m∧G w wr) (fun vk _=>n-(intOf vk).toNat)
 case atStart=>exact⟨0,List.replicate (n+j) 0,bC _,rfl,by simp,fB w (n+j) 149,by rw[List.take_replicate,iM];simp [val],(ag _).alloc _⟩
 case round=>
  obtain⟨i,cs,hi,rfl,E,C,D,F⟩:=hrel;have HV:=hi9 D;have s:=hi9 E;have HO:=hi9 C;clear D E C;by_cases bn:i<n
  ·obtain⟨b1,o1,rfl,M,J⟩:=HA.out i bn;have hx:=eO Y i;go_wp2_with fail
   go_loopw [7,8] (fun vc vt wr=>∃ (t c:Nat) (cs:List Nat),t≤j∧vt= .int .i64 t∧vc= .int .u64 c∧c<2^32∧cs.length=n+j∧Own wr w.heap.size cs∧val (cs.take (i+j))+2^(32*(i+t))*c=val (l.take i)*val m+2^(32*i)*(l.getD i 0*val (m.take t))∧G w wr) (fun _ vt _=>j-(intOf vt).toNat)
   case atStart=>exact⟨0,0,cs,bC _,rfl,rfl,by omega,s.out,HO.out,by rw[HV.out];simp [val],F⟩
   case round=>
    obtain⟨t,c,cs,ht,rfl,rfl,hc,E,C,D,F⟩:=hrel;have S:=hi9 D;have A:=hi9 E;have B:=hi9 C;clear D E C;have cm:(c:Int)≤4294967295:=by omega
    by_cases ce:t<j
    ·obtain⟨b2,o2,rfl,O,L⟩:=HB.out t ce;have ao:=F.cell (p:=⟨b1,o1+i,none⟩) M J;have ap:=F.cell (p:=⟨b2,o2+t,none⟩) O L;clear J L;have hy:=eO Z t;have hz:=eO (B.out:Own wr w.heap.size cs).1 (i+t);have ho:=Own.cell (w:=wr) (b:=w.heap.size) (l:=cs) (i:=i+t) B.out (by rw[A.out];omega);have hf:=Own.frozen (w:=wr) (b:=w.heap.size) (l:=cs) (i:=i+t) B.out (by rw[A.out];omega);obtain⟨p,r,q,dr,cz,ds,ea,hq,hr,he⟩:=q3N c _ _ _ hc hx hy hz;have HS:Hid _:=q0k (N:=i+j) eK (by rw[A.out];omega) S.out he;have HQ:=hi9 hq;have HR:=hi9 hr;have eb:((l.getD i 0:Nat):Int)≤4294967295:=by omega
     have ec:((m.getD t 0:Nat):Int)≤4294967295:=by omega
     have ed:((cs.getD (i+t) 0:Nat):Int)≤4294967295:=by omega
     have dk:(p:Int)≤18446744065119617025:=by omega
     generalize l.getD i 0=x at *;generalize m.getD t 0=y at *;generalize cs.getD (i+t) 0=z at *;clear hq hr he hx hy hz;have dl:b1<wr.heap.size:=ae M F.size;have dq:b2<wr.heap.size:=ae O F.size;have o:w.heap.size<wr.heap.size:=(B.out:Own wr w.heap.size cs).2.1;clear M O;go_wp2_with fail;refine eV eM eM ?_;intro W hW;have bz:=ik (w:=W) ⟨b1,o1+i,none⟩ (.int .u32 (x:Int));have cc:=ik (w:=W) ⟨b2,o2+t,none⟩ (.int .u32 (y:Int));have cd:=ik (w:=W) ⟨w.heap.size,i+t,none⟩ (.int .u32 (z:Int));clear hW
     repeat (go_big_quiet_step (fail))
     refine wpQuiet_nil ?_;clear bz cc cd;intro w1 I;have cy:=I.cell o ho;have cn:=I.frozen o hf;have al:Hid (Own w1 w.heap.size cs):=Own.grow B.out I;have am:=F.trans I;clear ho hf ao ap;go_wp2_with fail
     go_roundw
     case rel=>exact⟨t+1,q,cs.set (i+t) r,by omega,by go_num,rfl,HQ.out,by rw[ax];exact A.out,Own.set al.out (i+t) r (by rw[A.out];omega) HR.out,HS.out,am.setCell (az _) _⟩
     case measure=>simp only[intOf];omega
    ·obtain rfl:t=j:=by omega
     have ho:=Own.cell (w:=wr) (b:=w.heap.size) (l:=cs) (i:=i+t) B.out (by rw[A.out];omega);have hf:=Own.frozen (w:=wr) (b:=w.heap.size) (l:=cs) (i:=i+t) B.out (by rw[A.out];omega);generalize cs.getD (i+t) 0=z at *;have HK:Hid (c<2^32):=hc;have HS:Hid _:=q1N (l:=l) (m:=m) (by rw[A.out];omega) HJ.out rfl S.out;clear hc;go_wp2_with fail
     go_roundw
     case rel=>exact⟨i+1,cs.set (i+t) c,by omega,by go_num,by rw[ax];exact A.out,Own.set B.out (i+t) c (by rw[A.out];omega) HK.out,HS.out,F.setCell (az _) _⟩
     case measure=>simp only[intOf];omega
  ·obtain rfl:i=n:=by omega
   have hT:=hi9 (fF (HO.out:Own wr w.heap.size cs) s.out eK);have q2:val cs=val l*val m:=by
    have h1:=HV.out
    rwa[aC (by rw[s.out];omega),aC (by rw[HN.out];omega)] at h1
   rw[q2] at hT;clear q2;go_wp2_with fail;refine Calls.mono (P:=Tryz.prog) hT.out ?_;rintro e w1 ⟨v1,rfl,an,bv⟩;go_wp2_with fail;go_ret;exact⟨v1,rfl,aa F an,bv⟩
theorem im (n t:Nat):(List.replicate n 0).getD t 0=0:=by
 rw[ad,eG];split<;>rfl
theorem jq (w:World) (va:Value) (a:Nat) (O:Num w va a):
  Calls Tryz.prog 199 #[va] w fun e W=>e= .returned (.int .u64 ((a%2^64:Nat):Int))∧G w W:=by
 obtain⟨l,I,F,rfl⟩:=O;have B:=I.1;rcases Sl.cases I with ⟨rfl,p,c,rfl⟩|⟨A,b,o,c,rfl,X,hb,J⟩
 ·rw[show val []%2^64=0 from rfl];go_enter Tryz.func199,Tryz.ntmps199;go_wp2_with fail;go_ret;exact⟨rfl,ag _⟩
 ·have L:=J 0 (bS.2 A);rw[aS] at L;have E:=eO B 0;by_cases C:l.length=1
  ·have hv:val l%2^64=l.getD 0 0:=by
    match l,C with
    |[d],_=>simp only[val,List.getD_cons_zero] at E ⊢;omega
   rw[hv,C] at *;generalize l.getD 0 0=d0 at *;have K:(d0:Int)≤4294967295:=by omega
   clear J hv E I F B A;go_enter Tryz.func199,Tryz.ntmps199;go_wp2_with fail;go_ret;exact⟨rfl,ag _⟩
  ·have D:1<l.length:=by have:=bS.2 A;omega
   have U:=J 1 D;have h1:=eO B 1;have hv:val l%2^64=l.getD 0 0+l.getD 1 0*2^32:=by
    match l,D with
    |d::e::l',_=>simp only[val,List.getD_cons_zero,List.getD_cons_succ] at E h1 ⊢;omega
   rw[hv];generalize l.getD 0 0=d0 at *;generalize l.getD 1 0=d1 at *;have K:(d0:Int)≤4294967295:=by omega
   have N:(d1:Int)≤4294967295:=by omega
   have S:bits .or .u64 (d0:Int) ((d1:Int)*4294967296)=((d0+d1*2^32:Nat):Int):=by
    have M:(d1:Int)*4294967296=((d1*2^32:Nat):Int):=by omega
    rw[M,u64_or_nat d0 (d1*2^32) eK eK,dL,nat_join 32 (d1*2^32) d0 eK E,bR]
   generalize d0+d1*2^32=u at *;generalize l.length=k at *;have R:(1:Int)<k:=by omega
   clear J hv E h1 I F B A C D;go_enter Tryz.func199,Tryz.ntmps199;go_wp2_with fail;go_ret;exact⟨rfl,ag _⟩
theorem oP (x y s:Nat) (K:x<2^32) (J:s≤31) (L:y<2^s):∃ v lo hi:Nat,
  IntKind.u64.wrap ((x:Int)*2^s)=v∧bits .or .u32 (y:Int) ((v:Int)%4294967296)=lo∧bits .or .u32 (0:Int) ((v:Int)/4294967296%4294967296)=hi∧lo<2^32∧hi<2^s∧hi<2^32∧y+x*2^s=lo+2^32*hi:=by
 have O:2^s≤2^31:=ai eK J;have A:=af s;have D:x*2^s<2^32*2^s:=aF K A;have C:x*2^s%2^32=(x%2^(32-s))*2^s:=by
  have:2^32=2^(32-s)*2^s:=by rw[← ah];congr 1;omega
  rw[this,cZ]
 have E:(x%2^(32-s))*2^s+2^s≤2^32:=by
  have h1:x%2^(32-s)<2^(32-s):=aX _ (af _);have h2:(x%2^(32-s)+1)*2^s≤2^(32-s)*2^s:=ay _ h1;rw[← ah,show 32-s+s=32 from by omega,aJ,b9] at h2;exact h2
 have F:x*2^s%2^32%2^s=0:=by rw[C];exact eF _ _
 have M:x*2^s/2^32<2^s:=Nat.div_lt_of_lt_mul D;have I:((x:Int)*2^s)=((x*2^s:Nat):Int):=by push_cast;rfl
 rw[← C] at E;rw[I];generalize N:x*2^s=v at *;generalize B:2^s=R at *;refine⟨v,v%2^32+y,v/2^32,?_,?_,?_,by omega,by omega,by omega,by omega⟩
 ·rw[IntKind.wrap_u64];omega
 ·rw[show (v:Int)%4294967296=((v%2^32:Nat):Int) from by omega,u32_or_nat _ _ eK eK,dL];subst B;rw[nat_join s _ y F L]
 ·rw[show (v:Int)/4294967296%4294967296=((v/2^32:Nat):Int) from by omega];have:=u32_or_nat 0 (v/2^32) eK eK;rw[Nat.zero_or] at this;exact this
theorem getD_set_ne {l:List Nat} {i t x:Nat} (h:i≠t):(l.set i x).getD t 0=l.getD t 0:=by
 rw[ad,ad,aT h]
/-- One step of a shift to the left. -/
theorem left_step {cs l:List Nat} {i q s n lo hi:Nat} (C:i+q+1<cs.length) (B:n=32*q+s)
  (hv:val (cs.take (i+q+1))=val (l.take i)*2^n) (A:cs.getD (i+q) 0+l.getD i 0*2^s=lo+2^32*hi):
  val (((cs.set (i+q) lo).set (i+q+1) hi).take (i+1+q+1))=val (l.take (i+1))*2^n:=by
 rw[show i+1+q+1=i+q+1+1 from by omega,fe (by rw[ax];exact C),fe eK,eR l,aJ,← hv,eR cs];rw[show 2^(32*i)*l.getD i 0*2^n=2^(32*(i+q))*(l.getD i 0*2^s) from by
  rw[B,aw 32 i q,ah,ah];rw[ak,ak,cK (l.getD i 0)]]
 have h3:2^(32*(i+q))*(cs.getD (i+q) 0+l.getD i 0*2^s)=2^(32*(i+q))*(lo+2^32*hi):=by rw[A]
 rw[aw (2^(32*(i+q))),aw (2^(32*(i+q)))] at h3;rw[show 32*(i+q+1)=32*(i+q)+32 from by omega,ah,ak];omega
theorem iC (w:World) (va:Value) (a n K:Nat) (hK:K≤500000) (hn:n≤10000000) (ha:Num w va a) (L:a<2^(32*K)):
  Calls Tryz.prog 186 #[va,.int .u64 (n:Int)] w (eU w (a*2^n)):=by
 obtain⟨l,hl,y,rfl⟩:=ha;have bv:=eQ y L;clear L;have W:=hl.1;obtain⟨pa,ca,rfl,bn,X⟩:=fa hl;have HA:=hi9 X;clear X hl;generalize R:l.length=j at *;have HN:=hi9 R;clear R;by_cases am:j=0
 ·subst am;have an:l=[]:=aH HN.out;subst an;go_enter Tryz.func186,Tryz.ntmps186;go_wp2_with fail;go_ret;exact⟨_,rfl,ag _,by rw[show val []=0 from rfl,cw];exact gF _ _ _⟩
 have t0:((j:Int)==0)=false:=by simp;omega
 have bq:(n:Int)/32=((n/32:Nat):Int):=by omega
 have bs:(n:Int)%32=((n%32:Nat):Int):=by omega
 have U:n=32*(n/32)+n%32:=by omega
 have hs:((n%32:Nat):Int)≤31:=by omega
 have hq:((n/32:Nat):Int)≤312500:=by omega
 generalize n/32=q at *;generalize n%32=s at *;have k:=hi9 U;have bz:(n:Int)≤10000000:=by omega
 clear U hn;have ao:=gp (j+q+1) eK;rw[show ((j+q+1:Nat):Int)=(j:Int)+q+1 from by omega] at ao;go_enter Tryz.func186,Tryz.ntmps186;go_wp2_with fail
 go_loopw [8] (fun vk wr=>∃ (i:Nat) (cs:List Nat),i≤j∧vk= .int .i64 i∧cs.length=j+q+1∧Own wr w.heap.size cs∧val (cs.take (i+q+1))=val (l.take i)*2^n∧cs.getD (i+q) 0<2^s∧(∀ t,i+q<t→cs.getD t 0=0)∧G w wr) (fun vk _=>j-(intOf vk).toNat)
 case atStart=>exact⟨0,List.replicate (j+q+1) 0,bC _,rfl,by simp,fB w (j+q+1) 149,by rw[List.take_replicate,iM];simp [val],by rw[im];exact af _,fun t _=>im _ _,(ag _).alloc _⟩
 case round=>
  obtain⟨i,cs,hi,rfl,M,E,F,D,Y,m⟩:=hrel;have HV:=hi9 F;have A:=hi9 M;have I:=hi9 E;have HL:=hi9 D;have HU:=hi9 Y;clear F M E D Y;by_cases al:i<j
  ·obtain⟨b1,o1,rfl,J,B⟩:=HA.out i al;have hx:=eO W i;have bl:=m.cell (p:=⟨b1,o1+i,none⟩) J B;clear B J;have ho:=Own.cell (w:=wr) (b:=w.heap.size) (l:=cs) (i:=i+q) I.out (by rw[A.out];omega);have hf:=Own.frozen (w:=wr) (b:=w.heap.size) (l:=cs) (i:=i+q) I.out (by rw[A.out];omega);have bi:=Own.cell (w:=wr) (b:=w.heap.size) (l:=cs) (i:=i+q+1) I.out (by rw[A.out];omega);have bu:=Own.frozen (w:=wr) (b:=w.heap.size) (l:=cs) (i:=i+q+1) I.out (by rw[A.out];omega);have hu:=HU.out (i+q+1) eK;rw[hu] at bi;obtain⟨v,lo,O,cb,cc,cd,S,N,C,he⟩:=oP _ _ s hx eK HL.out;have HS:Hid _:=left_step (by rw[A.out];omega) k.out HV.out he;have d:=hi9 S;have c:=hi9 N;have Z:=hi9 C;have ce:((l.getD i 0:Nat):Int)≤4294967295:=by omega
   generalize l.getD i 0=x at *;generalize cs.getD (i+q) 0=z at *;clear S N C he hx hu;go_wp2_with fail
   go_roundw
   case rel=>exact⟨i+1,(cs.set (i+q) lo).set (i+q+1) O,by omega,by go_num,by rw[ax,ax];exact A.out,Own.set (Own.set I.out (i+q) lo (by rw[A.out];omega) d.out) (i+q+1) O (by rw[ax,A.out];omega) Z.out,HS.out,by rw[show i+1+q=i+q+1 from by omega,eY (by rw[ax,A.out];omega)];exact c.out,fun t ht=>by rw[getD_set_ne eK,getD_set_ne eK];exact HU.out t eK,(m.setCell (az _) _).setCell (az _) _⟩
   case measure=>simp only[intOf];omega
  ·obtain rfl:i=j:=by omega
   have hT:=hi9 (fF (I.out:Own wr w.heap.size cs) A.out eK);have q2:val cs=val l*2^n:=by
    have h1:=HV.out
    rwa[aC (by rw[A.out];omega),aC (by rw[HN.out];omega)] at h1
   rw[q2] at hT;clear q2;go_wp2_with fail;refine Calls.mono (P:=Tryz.prog) hT.out ?_;rintro e w1 ⟨v1,rfl,o,ap⟩;go_wp2_with fail;go_ret;exact⟨v1,rfl,aa m o,ap⟩
theorem gJ {l:List Nat} (h:okw l) (k:Nat):val (l.drop k)=val l/2^(32*k):=by
 by_cases A:k≤l.length
 ·have h1:=fG l k A;have h2:=fw h k A;rw[h1,cQ _ _ (af _),aR h2,aD]
 ·rw[aQ eK];have h1:=fm h;have h2:2^(32*l.length)≤2^(32*k):=ai eK eK;rw[aR eK];rfl
theorem nU (x y Z s:Nat) (A:s≤31):(x+2^32*(y+2^32*Z))/2^s%2^32=(x+y*2^32)/2^s%2^32:=by
 have e:x+2^32*(y+2^32*Z)=(x+y*2^32)+2^s*(2^32*(2^(32-s)*Z)):=by
  have:2^s*(2^32*(2^(32-s)*Z))=2^32*(2^32*Z):=by
   rw[cK,← ak (2^s),← ah,show s+(32-s)=32 from by omega]
  rw[this];omega
 rw[e,cQ _ _ (af _),db]
theorem q20 (x y s:Nat) (A:x<2^32) (B:y<2^32):∃ v d:Nat,
  bits .or .u64 (x:Int) ((y:Int)*4294967296)=v∧IntKind.u32.wrap ((v:Int)/2^s)=d∧d<2^32∧d=(x+y*2^32)/2^s%2^32:=by
 refine⟨x+y*2^32,(x+y*2^32)/2^s%2^32,?_,?_,aX _ eK,rfl⟩
 ·rw[show (y:Int)*4294967296=((y*2^32:Nat):Int) from by omega,u64_or_nat _ _ eK eK,dL,nat_join 32 _ x eK A,bR]
 ·rw[IntKind.wrap_u32];generalize x+y*2^32=v;have:(v:Int)/2^s=((v/2^s:Nat):Int):=by push_cast;rfl
  rw[this];omega
/-- One step of a shift to the right. -/
theorem right_step {cs l:List Nat} {i q s d W:Nat} (C:okw l) (hi:i<cs.length) (A:W=val (l.drop q)/2^s) (E:s≤31)
  (hv:val (cs.take i)=W%2^(32*i)) (D:i+q<l.length) (B:d=(l.getD (i+q) 0+l.getD (i+q+1) 0*2^32)/2^s%2^32):
  val ((cs.set i d).take (i+1))=W%2^(32*(i+1)):=by
 rw[fe hi,hv,show 32*(i+1)=32*i+32 from by omega,ah,Nat.mod_mul]
 congr 2
 have h1:W/2^(32*i)=val (l.drop (i+q))/2^s:=by
  rw[A,bt,aI,← bt,← gJ (jc C q),List.drop_drop,bR q i]
 rw[h1,B,fb D];have h2:val (l.drop (i+q+1))=l.getD (i+q+1) 0+2^32*val (l.drop (i+q+2)):=by
  by_cases h:i+q+1<l.length
  ·rw[fb h];rfl
  ·rw[aQ eK,aQ eK,ad,aZ eK];rfl
 show _=(l.getD (i+q) 0+2^32*val (l.drop (i+q+1)))/2^s%2^32;rw[h2,nU _ _ _ _ E]
theorem ig (w:World) (va:Value) (a n K:Nat) (hK:K≤1000000) (hn:n≤40000000) (ha:Num w va a) (O:a<2^(32*K)):
  Calls Tryz.prog 157 #[va,.int .u64 (n:Int)] w (eU w (a/2^n)):=by
 obtain⟨l,hl,al,rfl⟩:=ha;have cb:=eQ al O;clear O;have A:=hl.1;obtain⟨pa,ca,rfl,bq,Y⟩:=fa hl;have HA:=hi9 Y;clear Y hl;have bs:(n:Int)/32=((n/32:Nat):Int):=by omega
 have bu:(n:Int)%32=((n%32:Nat):Int):=by omega
 have X:n=32*(n/32)+n%32:=by omega
 have hs:((n%32:Nat):Int)≤31:=by omega
 have hq:((n/32:Nat):Int)≤1250000:=by omega
 generalize n/32=q at *;generalize n%32=s at *;have I:=hi9 X;have cd:(n:Int)≤40000000:=by omega
 clear X hn;by_cases ce:l.length≤q
 ·have hz:val l/2^n=0:=by
   have h1:=fm A;have h2:2^(32*l.length)≤2^n:=ai eK (by rw[I.out];omega);exact aR eK
  rw[hz];generalize l.length=j at *;have t0:(j:Int)≤q:=by omega
  go_enter Tryz.func157,Tryz.ntmps157;go_wp2_with fail;go_ret;exact⟨_,rfl,ag _,gF _ _ _⟩
 ·generalize W:l.length=j at *;have m:=hi9 W;clear W;have t0:¬ (j:Int)≤q:=by omega
  obtain⟨k,hk⟩:∃ k,j=k+q:=⟨j-q,by omega⟩;have bv:(j:Int)-q=k:=by omega
  have bz:(k:Int)≤1000000:=by omega
  have cc:=gp k eK;have HK:=hi9 hk;clear hk;go_enter Tryz.func157,Tryz.ntmps157;go_wp2_with fail
  go_loopw [8] (fun vk wr=>∃ (i:Nat) (cs:List Nat),i≤k∧vk= .int .i64 i∧cs.length=k∧Own wr w.heap.size cs∧val (cs.take i)=val (l.drop q)/2^s%2^(32*i)∧G w wr) (fun vk _=>k-(intOf vk).toNat)
  case atStart=>exact⟨0,List.replicate k 0,bC _,rfl,by simp,fB w k 149,by simp [val,Nat.mod_one],(ag _).alloc _⟩
  case round=>
   obtain⟨i,cs,hi,rfl,R,E,F,N⟩:=hrel;have HV:=hi9 F;have B:=hi9 R;have J:=hi9 E;clear F R E;by_cases an:i<k
   ·have S:i+q<j:=by have:=HK.out;omega
    obtain⟨b1,o1,rfl,L,C⟩:=HA.out (i+q) S;have bl:=N.cell (p:=⟨b1,o1+(i+q),none⟩) L C;clear C L;have hx:=eO A (i+q);have hy:=eO A (i+q+1);have ho:=Own.cell (w:=wr) (b:=w.heap.size) (l:=cs) (i:=i) J.out (by rw[B.out];omega);have hf:=Own.frozen (w:=wr) (b:=w.heap.size) (l:=cs) (i:=i) J.out (by rw[B.out];omega);obtain⟨v,d,Z,ap,hd,he⟩:=q20 _ _ s hx hy;have HS:Hid _:=right_step (cs:=cs) (d:=d) A (by rw[B.out];exact an) rfl eK HV.out (by rw[m.out];exact S) he;have HD:=hi9 hd;have ci:((l.getD (i+q) 0:Nat):Int)≤4294967295:=by omega
    have bi:((l.getD (i+q+1) 0:Nat):Int)≤4294967295:=by omega
    by_cases U:i+q+1<j
    ·obtain⟨b2,o2,am,M,D⟩:=HA.out (i+q+1) U;cases am;have bn:=N.cell (p:=⟨b1,o1+(i+q+1),none⟩) M D;clear D M;generalize l.getD (i+q) 0=x at *;generalize l.getD (i+q+1) 0=y at *;generalize cs.getD i 0=z at *;clear hd he hx hy;go_wp2_with fail
     go_roundw
     case rel=>exact⟨i+1,cs.set i d,by omega,by go_num,by rw[ax];exact B.out,Own.set J.out i d (by rw[B.out];omega) HD.out,HS.out,N.setCell (az _) _⟩
     case measure=>simp only[intOf];omega
    ·have c:l.getD (i+q+1) 0=0:=by rw[ad,aZ (by rw[m.out];omega)];rfl
     have hv:(v:Int)=((l.getD (i+q) 0:Nat):Int):=by
      rw[← Z,c];have:=u64_or_nat (l.getD (i+q) 0) 0 eK eK;rw[Nat.or_zero] at this;exact this
     rw[hv] at ap;generalize l.getD (i+q) 0=x at *;generalize cs.getD i 0=z at *;clear hd he hx hy c Z hv bi;go_wp2_with fail
     go_roundw
     case rel=>exact⟨i+1,cs.set i d,by omega,by go_num,by rw[ax];exact B.out,Own.set J.out i d (by rw[B.out];omega) HD.out,HS.out,N.setCell (az _) _⟩
     case measure=>simp only[intOf];omega
   ·obtain rfl:i=k:=by omega
    have hT:=hi9 (fF (J.out:Own wr w.heap.size cs) B.out eK);have q2:val cs=val l/2^n:=by
     have h1:=HV.out;rw[aC (by rw[B.out];omega)] at h1;have h2:=fm (jc A q);rw[cI,m.out,HK.out,eo] at h2;rw[h1,aU (aq (aN _ _) h2),gJ A,bt,← ah,I.out]
    rw[q2] at hT;clear q2;go_wp2_with fail;refine Calls.mono (P:=Tryz.prog) hT.out ?_;rintro e w1 ⟨v1,rfl,o,ao⟩;go_wp2_with fail;go_ret;exact⟨v1,rfl,aa N o,ao⟩
theorem q2a (r x d:Nat) (B:r<d) (C:x<2^32) (D:d<2^32):∃ R q A:Nat,
  bits .or .u64 ((r:Int)*4294967296) (x:Int)=R∧IntKind.u64.wrap ((R:Int)/d)=q∧(q:Int)%4294967296=q∧(R:Int)%d=A∧A<d∧q<2^32∧r*2^32+x=q*d+A:=by
 have h1:(r*2^32+x)/d<2^32:=by
  rw[bh eK];have:(r+1)*2^32≤d*2^32:=ay _ B;rw[aI (2^32) d];omega
 refine⟨r*2^32+x,(r*2^32+x)/d,(r*2^32+x)%d,?_,?_,?_,?_,aX _ eK,h1,?_⟩
 ·rw[show (r:Int)*4294967296=((r*2^32:Nat):Int) from by omega,u64_or_nat _ _ eK eK,nat_join 32 _ x eK C]
 ·rw[IntKind.wrap_u64,← cW];generalize (r*2^32+x)/d=q at *;omega
 ·generalize (r*2^32+x)/d=q at *;omega
 ·rw[← dx]
 ·exact(Nat.div_add_mod' _ _).symm
/-- One step of a division by a word. -/
theorem pC {cs l:List Nat} {k r q A d:Nat} (B:k<cs.length) (C:k<l.length)
  (hv:val (l.drop (k+1))=val (cs.drop (k+1))*d+r) (D:r*2^32+l.getD k 0=q*d+A):
  val (l.drop k)=val ((cs.set k q).drop k)*d+A:=by
 rw[fb C,fb (l:=cs.set k q) (by simpa using B),eY B,bU eK];show l.getD k 0+2^32*val (l.drop (k+1))=(q+2^32*val (cs.drop (k+1)))*d+A;rw[hv,aJ,aw,← ak];omega
theorem qj (w:World) (va:Value) (a d K:Nat) (hK:K≤1000000) (J:0<d) (hd:d<2^32) (ha:Num w va a) (F:a<2^(32*K)):
  Calls Tryz.prog 130 #[va,.int .u32 (d:Int)] w fun e w'=>∃ v,e= .returned (.tuple #[v,.int .u32 ((a%d:Nat):Int)])∧G w w'∧Num w' v (a/d):=by
 obtain⟨l,Y,X,rfl⟩:=ha;have ap:=eQ X F;clear F;have M:=Y.1;obtain⟨pa,ca,rfl,am,O⟩:=fa Y;have HA:=hi9 O;clear O Y;generalize L:l.length=j at *;have HN:=hi9 L;clear L;have bi:=gp j eK;have an:(d:Int)≤4294967295:=by omega
 have ao:((d:Int)==0)=false:=by simp;omega
 go_enter Tryz.func130,Tryz.ntmps130;go_wp2_with fail
 go_loopw [7,8] (fun vr y wr=>∃ (t r:Nat) (cs:List Nat),t≤j∧y= .int .i64 ((t:Int)-1)∧vr= .int .u64 r∧r<d∧cs.length=j∧Own wr w.heap.size cs∧val (l.drop t)=val (cs.drop t)*d+r∧G w wr) (fun _ y _=>(intOf y+1).toNat)
 case atStart=>exact⟨j,0,List.replicate j 0,az _,rfl,rfl,J,by simp,fB w j 149,by rw[aQ (by rw[HN.out];exact az _),aQ fI];simp [val],(ag _).alloc _⟩
 case round=>
  obtain⟨t,r,cs,ht,rfl,rfl,c,I,B,C,U⟩:=hrel;have HV:=hi9 C;have D:=hi9 I;have S:=hi9 B;clear C I B;cases t with
  |succ k=>
   obtain⟨b1,o1,rfl,E,A⟩:=HA.out k eK;have al:=U.cell (p:=⟨b1,o1+k,none⟩) E A;clear A E;have hx:=eO M k;have ho:=Own.cell (w:=wr) (b:=w.heap.size) (l:=cs) (i:=k) S.out (by rw[D.out];omega);have hf:=Own.frozen (w:=wr) (b:=w.heap.size) (l:=cs) (i:=k) S.out (by rw[D.out];omega);obtain⟨R,q,r',bl,bn,bq,o,N,hq,he⟩:=q2a r _ d c hx hd;have HS:Hid _:=pC (cs:=cs) (l:=l) (by rw[D.out];omega) (by rw[HN.out];omega) HV.out he;have HQ:=hi9 hq;have HR:=hi9 N;have bs:((l.getD k 0:Nat):Int)≤4294967295:=by omega
   have m:(r:Int)≤4294967295:=by omega
   generalize l.getD k 0=x at *;generalize cs.getD k 0=z at *;clear he hq N hx;go_wp2_with fail;simp only[o]
   go_roundw
   case rel=>exact⟨k,r',cs.set k q,by omega,by congr 1,rfl,HR.out,by rw[ax];exact D.out,Own.set S.out k q (by rw[D.out];omega) HQ.out,HS.out,U.setCell (az _) _⟩
   case measure=>simp [intOf]
  |zero=>
   have hT:=hi9 (fF (S.out:Own wr w.heap.size cs) D.out eK);have s:val l=val cs*d+r:=HV.out;have q2:val cs=val l/d:=by
    rw[s,aI,Nat.mul_add_div J,aR c,aS]
   have q3:r=val l%d:=by
    rw[s,aI,Nat.mul_add_mod,aU c]
   rw[q2] at hT;have Q3:=hi9 q3;have hw:IntKind.u32.wrap (r:Int)=(r:Int):=by rw[IntKind.wrap_u32];omega
   have m:(r:Int)≤4294967295:=by omega
   clear s q2 q3;go_wp2_with fail;refine Calls.mono (P:=Tryz.prog) hT.out ?_;rintro e w1 ⟨v1,rfl,W,Z⟩;go_wp2_with fail
   go_ret2
   exact⟨v1,by rw[← Q3.out];rfl,aa U W,Z⟩
/-- The length of a number in bits. -/
def blen (a:Nat):Nat:=if a=0 then 0 else a.log2+1
theorem pK {a k:Nat} (h:a<2^k) (h2:k=0∨2^(k-1)≤a):blen a=k:=by
 unfold blen;rcases bo k with rfl|A
 ·rw[if_pos (by simpa using h)]
 ·have h3:2^(k-1)≤a:=by rcases h2 with h2|h2;omega;exact h2
  have:=af (k-1);rw[if_neg eK,(dd eK).2 ⟨h3,by rw[Nat.sub_add_cancel A];exact h⟩];omega
theorem iN {l:List Nat} {n:Nat} (h:canon l) (A:l.length=n+1):l.getD n 0≠0:=by
 have B:l≠[]:=by intro e;rw[e] at A;simp at A
 have:=h.2 B;rw[List.getLast_eq_getElem] at this;rw[ad,aE eK];simpa [A] using this
theorem ly (w:World) (va:Value) (a K:Nat) (hK:K≤1000000) (s:Num w va a) (D:a<2^(32*K)):
  Calls Tryz.prog 133 #[va] w fun e w'=>e= .returned (.int .i64 (blen a))∧G w w':=by
 obtain⟨l,R,E,rfl⟩:=s;have an:=eQ E D;clear D;have A:=R.1;obtain⟨pa,ca,rfl,al,J⟩:=fa R;have c:=hi9 J;clear J R;generalize I:l.length=j at *;have C:=hi9 I;clear I;cases j with
 |zero=>
  have S:l=[]:=aH C.out;subst S;rw[show blen (val [])=0 from rfl];go_enter Tryz.func133,Tryz.ntmps133;go_wp2_with fail;go_ret;exact⟨rfl,ag _⟩
 |succ n=>
  obtain⟨b1,o1,rfl,o,y⟩:=c.out n eK;have hx:=eO A n;have B:=iN E C.out;have hv:∀ k,k≤32→l.getD n 0<2^k→2^(k-1)≤l.getD n 0→blen (val l)=n*32+k:=by
   intro k X h1 h2;have h3:=fq (l:=l) (k:=n) (by rw[C.out];omega);rw[aQ (by rw[C.out];omega)] at h3;have h4:=fw A n (by rw[C.out];omega);have am:k≠0:=by rintro rfl;simp at h1;exact B h1
   simp only[val,bm,aS] at h3;refine pK ?_ (Or.inr ?_)
   ·rw[show n*32+k=32*n+k from by omega,ah,h3];have:2^(32*n)*(l.getD n 0+1)≤2^(32*n)*2^k:=aA _ h1;rw[aw] at this;omega
   ·rw[show n*32+k-1=32*n+(k-1) from by omega,ah,h3];have:2^(32*n)*2^(k-1)≤2^(32*n)*l.getD n 0:=aA _ h2;omega
  have i:=hi9 hv;have bl:((l.getD n 0:Nat):Int)≤4294967295:=by omega
  have O:=hi9 B;generalize l.getD n 0=x at *;generalize blen (val l)=bn at *;clear hv B;go_enter Tryz.func133,Tryz.ntmps133;go_wp2_with fail
  go_loopw [3,4] (fun vn U wr=>∃ k t:Nat,k≤32∧vn= .int .i64 k∧U= .int .u32 t∧t=x/2^k∧(k=0∨2^(k-1)≤x)∧G w wr) (fun _ U _=>(intOf U).toNat)
  case atStart=>exact⟨0,x,by omega,rfl,rfl,by simp,Or.inl rfl,ag _⟩
  case round=>
   obtain⟨k,t,X,rfl,rfl,Y,F,W⟩:=hrel;have L:=hi9 Y;have M:=hi9 F;clear Y F;by_cases m:t=0
   ·subst m;have h1:x<2^k:=by
     rcases br x (2^k) with h|h
     ·exact h
     ·have:=dM h (af k);have:=L.out;omega
    have h2:2^(k-1)≤x:=by
     rcases M.out with rfl|h
     ·exact absurd (by simpa using h1) O.out
     ·exact h
    have d:=hi9 (i.out k X h1 h2);clear h1 h2;go_wp2_with fail;go_ret;exact⟨by rw[d.out];exact ft (by push_cast;omega),W⟩
   ·have t1:((t:Int)==0)=false:=by simp;omega
    have h1:2^k≤x:=by
     rcases br x (2^k) with h|h
     ·have:=aR h;have:=L.out;omega
     ·exact h
    have h2:k<32:=by
     rcases br k 32 with h|h
     ·exact h
     ·have:2^32≤2^k:=ai eK h;omega
    have Z:=hi9 h1;obtain⟨u,hu,ao⟩:∃ u:Nat,u=t/2∧(t:Int)/2=u:=⟨t/2,rfl,by omega⟩;have N:=hi9 hu;have bi:u<t:=by omega
    clear hu;have ap:(t:Int)≤4294967295:=by have:=aN x (2^k);have:=L.out;omega
    clear h1;go_wp2_with fail
    go_roundw
    case rel=>exact⟨k+1,u,by omega,by go_num,by rfl,by rw[N.out,L.out,bt,← bp],Or.inr Z.out,W⟩
    case measure=>simp only[intOf];omega
end Go.Proofs.YtfnkkkcojnffdaaGreatDoor
namespace Go.Proofs.YtfnkkkcojnffdaaGreatDoor
open BN
/-! The guess of a digit. -/
/-- No guess is too small: at first. -/
theorem q2P {S W h top P u2:Nat} (E:S<(h*2^32+u2+1)*P) (hu:u2<2^32) (B:top*2^32*P≤W) (C:0<top):S<(h/top+1)*W:=by
 have h1:h<(h/top+1)*top:=by
  have h2:=cu h top;have h3:=aX h C;rw[aJ,b9,aI];omega
 have D:(h*2^32+u2+1)*P≤(h/top+1)*top*2^32*P:=ay _ (by
  have:(h+1)*2^32≤(h/top+1)*top*2^32:=ay _ h1;omega)
 have A:(h/top+1)*(top*2^32*P)≤(h/top+1)*W:=aA _ B;rw[← ak,← ak] at A;omega
/-- A guess that is told too great is too great. -/
theorem oM {S W g h r top next P u2:Nat} (C:S<(h*2^32+u2+1)*P) (A:(top*2^32+next)*P≤W) (B:g*top+r=h) (D:r*2^32+u2<g*next):S<g*W:=by
 have h1:h*2^32+u2+1≤g*(top*2^32+next):=by
  rw[← B,aw,aJ,← ak];omega
 have h2:(h*2^32+u2+1)*P≤g*(top*2^32+next)*P:=ay _ h1;have h3:g*((top*2^32+next)*P)≤g*W:=aA _ A;rw[← ak] at h3;omega
theorem nG {S W g:Nat} (A:S<2^32*W) (B:2^32≤g):S<g*W:=
 ae A (ay _ B)
/-- The last guess is at most by one too great. -/
theorem qO {S W g h r top next P u2:Nat} (J:(h*2^32+u2)*P≤S) (B:W<(top*2^32+next+1)*P) (D:2^32*P≤W) (E:g*top+r=h) (A:g<2^32) (K:g*next≤r*2^32+u2):g*W<S+W:=by
 have h1:g*(top*2^32+next)≤h*2^32+u2:=by
  rw[← E,aw,aJ,← ak];omega
 have h2:g*(top*2^32+next)*P≤(h*2^32+u2)*P:=ay _ h1;have h3:g*W≤g*((top*2^32+next+1)*P):=aA _ (cj B);have F:g*((top*2^32+next+1)*P)=g*(top*2^32+next)*P+g*P:=by
  rw[← ak,aw g,bJ,aJ]
 have I:0<P:=by
  rcases bo P with rfl|h
  ·simp at B
  ·exact h
 have C:(g+1)*P≤2^32*P:=ay _ A;rw[aJ,b9] at C;omega
/-- Where the rest has grown past a word, all is well. -/
theorem qN {g h r top u1 next u2:Nat} (E:h≤top*2^32+u1) (B:u1<2^32) (D:g*top+r=h) (A:2^32≤r) (F:next<2^32):g<2^32∧g*next≤r*2^32+u2:=by
 have h1:g*top<2^32*top:=by rw[aI (2^32)];omega
 have h2:g<2^32:=ck h1;refine⟨h2,?_⟩;have h3:g*next≤2^32*2^32:=bN eK eK
 have C:2^32*2^32≤r*2^32:=ay _ A;omega
/-! Taking away. -/
theorem qv {us v:List Nat} {j i g c d x y r c' d' A:Nat} (hi:j+i<us.length) (C:us.getD (j+i) 0=x) (D:v.getD i 0=y)
  (h:val us+2^(32*j)*(g*val (v.take i))=A+2^(32*(j+i))*(c+d)) (B:r+g*y+c+d=x+2^32*(c'+d')):
  val (us.set (j+i) r)+2^(32*j)*(g*val (v.take (i+1)))=A+2^(32*(j+(i+1)))*(c'+d'):=by
 have h1:=kc (r:=r) hi;rw[C] at h1;rw[eR v,D,aw g,aw (2^(32*j)),show 2^(32*j)*(g*(2^(32*i)*y))=2^(32*(j+i))*(g*y) from by
  rw[aw,ah,ak,cK g]]
 rw[show 32*(j+(i+1))=32*(j+i)+32 from by omega,ah,ak];have h3:2^(32*(j+i))*(r+g*y+c+d)=2^(32*(j+i))*(x+2^32*(c'+d')):=by rw[B]
 generalize 2^(32*(j+i))=p at *;rw[aw p,aw p,aw p,aw p] at h3;rw[aw p] at h;omega
theorem rB {us:List Nat} {j n g c d x r d' A V:Nat} (hi:j+n<us.length) (C:us.getD (j+n) 0=x)
  (h:val us+2^(32*j)*(g*V)=A+2^(32*(j+n))*(c+d)) (B:r+c+d=x+2^32*d'):
  val (us.set (j+n) r)+g*(2^(32*j)*V)=A+2^(32*(j+n+1))*d':=by
 have h1:=kc (r:=r) hi;rw[C] at h1;rw[show 32*(j+n+1)=32*(j+n)+32 from by omega,ah,ak,cK g];have h3:2^(32*(j+n))*(r+c+d)=2^(32*(j+n))*(x+2^32*d'):=by rw[B]
 generalize 2^(32*(j+n))=p at *;rw[aw p,aw p,aw p] at h3;rw[aw p] at h;omega
theorem qw {us v:List Nat} {j i c x y r c' A:Nat} (hi:j+i<us.length) (C:us.getD (j+i) 0=x) (D:v.getD i 0=y)
  (h:val us+2^(32*(j+i))*c=A+2^(32*j)*val (v.take i)) (B:c+(x+y)=r+2^32*c'):
  val (us.set (j+i) r)+2^(32*(j+(i+1)))*c'=A+2^(32*j)*val (v.take (i+1)):=by
 have h1:=kc (r:=r) hi;rw[C] at h1;rw[eR v,D,aw (2^(32*j)),show 2^(32*j)*(2^(32*i)*y)=2^(32*(j+i))*y from by
  rw[aw,ah,ak]]
 rw[show 32*(j+(i+1))=32*(j+i)+32 from by omega,ah,ak];have h3:2^(32*(j+i))*(c+(x+y))=2^(32*(j+i))*(r+2^32*c'):=by rw[B]
 generalize 2^(32*(j+i))=p at *;rw[aw p,aw p,aw p] at h3;omega
theorem rD {us:List Nat} {j n c x r k A V:Nat} (hi:j+n<us.length) (C:us.getD (j+n) 0=x)
  (h:val us+2^(32*(j+n))*c=A+2^(32*j)*V) (B:x+c=r+2^32*k):
  val (us.set (j+n) r)+2^(32*(j+n+1))*k=A+2^(32*j)*V:=by
 have h1:=kc (r:=r) hi;rw[C] at h1;rw[show 32*(j+n+1)=32*(j+n)+32 from by omega,ah,ak];have h3:2^(32*(j+n))*(x+c)=2^(32*(j+n))*(r+2^32*k):=by rw[B]
 generalize 2^(32*(j+n))=p at *;rw[aw p,aw p] at h3;omega
/-- A row whose upper words are nought is below the power. -/
theorem kZ {l:List Nat} {k:Nat} (h:okw l) (A:val (l.drop k)=0):val l<2^(32*k):=by
 rw[gJ h] at A;exact(Nat.div_eq_zero_iff.1 A).resolve_left (by have:=af (32*k);omega)
theorem ie {l:List Nat} {p k r:Nat} (h:p<k):(l.set p r).drop k=l.drop k:=bU h
/-- A digit that was right. -/
theorem ny {S g W R d' T:Nat} (A:S<(g+1)*W) (h:R+g*W=S+T*d') (B:d'=0):R+g*W=S∧R<W:=by
 subst B;rw[bm] at h;rw[aJ,b9] at A;omega
/-- A digit that was by one too great: what comes of it behind the giving back. -/
theorem oG {S g W R A T k:Nat} (D:S<(g+1)*W) (K:g*W<S+W) (h:R+g*W=S+T) (J:R<T) (hb:A+T*k=R+W) (C:A<T) (E:W≤T):
  A+(g-1)*W=S∧A<W∧0<g:=by
 have F:0<g:=by
  rcases bo g with rfl|B
  ·rw[cw] at h;omega
  ·exact B
 have h1:(g-1)*W+W=g*W:=by
  obtain⟨t,rfl⟩:∃ t,g=t+1:=⟨g-1,by omega⟩;rw[eo,aJ,b9]
 have I:k=1:=by
  rcases k with _|_|k
  ·rw[bm] at hb;omega
  ·rfl
  ·exfalso;have:T*2≤T*(k+1+1):=aA _ eK;omega
 subst I;rw[bJ] at hb;rw[aJ,b9] at D;omega
/-- One digit of the quotient more. -/
theorem mr {us B C:List Nat} {j q V A:Nat} (D:j<C.length) (h:val us+val (C.drop (j+1))*(2^(32*(j+1))*V)=A) (E:val B+q*(2^(32*j)*V)=val us):
  val B+val ((C.set j q).drop j)*(2^(32*j)*V)=A:=by
 rw[fb (l:=C.set j q) (by simpa using D),eY D,bU eK];show val B+(q+2^32*val (C.drop (j+1)))*(2^(32*j)*V)=A;rw[aJ,← h,← E,show 32*(j+1)=32+32*j from by omega,ah];generalize val (C.drop (j+1))=z;generalize 2^(32*j)=p;have e:2^32*z*(p*V)=z*(2^32*p*V):=by
  rw[ak (2^32) p,aI (2^32) z,ak]
 rw[e];omega
end Go.Proofs.YtfnkkkcojnffdaaGreatDoor
