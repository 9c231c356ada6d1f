/- What is proved here: contracts of package exact: how two numbers stand to each other, over this seat's translation.
What is proved here: contracts of the reference's big numbers, rows of words: trim, words, cmp, over this seat's translation.
What is proved here: contracts of the reference's big numbers: add, sub, over this seat's translation.
What is proved here: contracts of the reference's big numbers: mul, over this seat's translation.
What is proved here: contracts of the reference's big numbers: plain, left, right, small, over this seat's translation.
What is proved here: contracts of the reference's big numbers: right, small, over this seat's translation.
What is proved here: contracts of the reference's big numbers: small, over this seat's translation.
What is proved here: contracts of the reference's big numbers: length, twin, over this seat's translation.
What is proved here: plain facts on the digits of a long division (no program). -/
import Derived.Test.YtfnkkkcojnffdaaGreatDoorC1
import Derived.Test.YtfnkkkcojnffdaaGreatDoorC8
import Derived.Test.YtfnkkkcojnffdaaGreatDoorC3
import Derived.Test.YtfnkkkcojnffdaaGreatDoorC4
namespace Go.Proofs.YtfnkkkcojnffdaaGreatDoor.EN
open Go.ChangeShapes Go.WideShapes Go.ChangeAt Go.RowKit
def cmpV (a b:Nat):Int:=if a<b then -1 else if a=b then 0 else 1
def cmpZ (a b:Int):Int:=if a<b then -1 else if a=b then 0 else 1
theorem oG (x:Int) (w:World):Calls Tryz.prog 179 #[.int .i64 x] w fun e A=>e= .returned (.bool false)∧G w A:=by
 have t:(x != x)=false:=by simp
 go_enter Tryz.func179,Tryz.ntmps179;go_wp2;go_ret;exact⟨rfl,af _⟩
theorem iU (x y:Int) (w:World):Calls Tryz.prog 131 #[.int .i64 x,.int .i64 y] w fun e C=>e= .returned (.int .i64 (cmpZ x y))∧G w C:=by
 have K:Hid _:=fun x w=>oG x w;unfold cmpZ;by_cases h1:x<y
 ·rw[if_pos h1];have t1:decide (x<y)=true:=decide_eq_true h1;clear h1;go_enter Tryz.func131,Tryz.ntmps131;go_wp2_with (first|(go_at_call 179;refine(K.out _ _).mono ?_;rintro e B ⟨rfl,A⟩));go_ret;exact⟨rfl,ny⟩
 ·rw[if_neg h1];have t1:decide (x<y)=false:=decide_eq_false h1;by_cases h2:x=y
  ·rw[if_pos h2];have t2:decide (y<x)=false:=decide_eq_false dT;clear h1 h2;go_enter Tryz.func131,Tryz.ntmps131;go_wp2_with (first|(go_at_call 179;refine(K.out _ _).mono ?_;rintro e B ⟨rfl,A⟩));go_ret;exact⟨rfl,ny⟩
  ·rw[if_neg h2];have t2:decide (y<x)=true:=decide_eq_true dT;clear h1 h2;go_enter Tryz.func131,Tryz.ntmps131;go_wp2_with (first|(go_at_call 179;refine(K.out _ _).mono ?_;rintro e B ⟨rfl,A⟩));go_ret;exact⟨rfl,ny⟩
theorem oH (x:Int) (w:World):Calls Tryz.prog 180 #[.int .u64 x] w fun e A=>e= .returned (.bool false)∧G w A:=by
 have t:(x != x)=false:=by simp
 go_enter Tryz.func180,Tryz.ntmps180;go_wp2;go_ret;exact⟨rfl,af _⟩
theorem iV (x y:Int) (w:World):Calls Tryz.prog 132 #[.int .u64 x,.int .u64 y] w fun e C=>e= .returned (.int .i64 (cmpZ x y))∧G w C:=by
 have K:Hid _:=fun x w=>oH x w;unfold cmpZ;by_cases h1:x<y
 ·rw[if_pos h1];have t1:decide (x<y)=true:=decide_eq_true h1;clear h1;go_enter Tryz.func132,Tryz.ntmps132;go_wp2_with (first|(go_at_call 180;refine(K.out _ _).mono ?_;rintro e B ⟨rfl,A⟩));go_ret;exact⟨rfl,ny⟩
 ·rw[if_neg h1];have t1:decide (x<y)=false:=decide_eq_false h1;by_cases h2:x=y
  ·rw[if_pos h2];have t2:decide (y<x)=false:=decide_eq_false dT;clear h1 h2;go_enter Tryz.func132,Tryz.ntmps132;go_wp2_with (first|(go_at_call 180;refine(K.out _ _).mono ?_;rintro e B ⟨rfl,A⟩));go_ret;exact⟨rfl,ny⟩
  ·rw[if_neg h2];have t2:decide (y<x)=true:=decide_eq_true dT;clear h1 h2;go_enter Tryz.func132,Tryz.ntmps132;go_wp2_with (first|(go_at_call 180;refine(K.out _ _).mono ?_;rintro e B ⟨rfl,A⟩));go_ret;exact⟨rfl,ny⟩
theorem gN (w:World) (va vb:Value) (a b K:Nat) (hK:K≤1048576) (ha:Num w va a) (hb:Num w vb b) (s:a<2^(64*K)) (al:b<2^(64*K)):
  Calls Tryz.prog 77 #[va,vb] w fun e w'=>e= .returned (.int .i64 (cmpV a b))∧G w w':=by
 obtain⟨l,hl,Z,rfl⟩:=ha;obtain⟨m,hm,c,rfl⟩:=hb;have cd:=dX Z s;have ce:=dX c al;clear s al;have ao:=hl.1;have ap:=hm.1;obtain⟨pa,ca,rfl,bu,bl⟩:=ei hl;obtain⟨pb,cb,rfl,bv,bn⟩:=ei hm;have HA:=hi9 bl;have HB:=hi9 bn;clear bl bn hl hm;by_cases d:l.length=m.length
 ·generalize hn:m.length=n at *;have HN:=hi9 d;have HM:=hi9 hn;rw[d];have ec:(n:Int)≤1048576:=by omega
  have ek:((n:Int) != (n:Int))=false:=by simp
  clear d hn cd ce bu bv;go_enter Tryz.func77,Tryz.ntmps77;go_wp2
  go_loopw [5] (fun vk wr=>∃ k:Nat,k≤n∧vk= .int .i64 ((k:Int)-1)∧val (l.drop k)=val (m.drop k)∧G w wr) (fun vk _=>(intOf vk+1).toNat)
  case atStart=>exact⟨n,ay _,rfl,by rw[List.drop_of_length_le (by rw[HN.out];exact ay _),List.drop_of_length_le (by rw[HM.out];exact ay _)],af _⟩
  case round=>
   obtain⟨k,hk,rfl,hv,O⟩:=hrel;have HV:=hi9 hv;clear hv;cases k with
   |zero=>
    go_wp2;go_ret;have ds:val l=val m:=by have:=HV.out;simpa using this
    exact⟨er (by unfold cmpV;rw[if_neg dT,if_pos ds]),O⟩
   |succ k=>
    obtain⟨E,i,rfl,X,R⟩:=HA.out k (by rw[HN.out];omega);obtain⟨F,j,rfl,Y,S⟩:=HB.out k dT;have C:=O.cell (p:=⟨E,i+k,none⟩) X R;have D:=O.cell (p:=⟨F,j+k,none⟩) Y S;have M:E<wr.heap.size:=ad X O.size;have N:F<wr.heap.size:=ad Y O.size;clear R S X Y;have I:k<l.length:=by rw[HN.out];omega
    have J:k<m.length:=by rw[HM.out];omega
    have L:=iA ao I J HV.out;have an:=iA ap J I HV.out.symm;have am:l.getD k 0=m.getD k 0→val (l.drop k)=val (m.drop k):=by
     intro h;rw[eg I,eg J,h];show _+2^64*_=_+2^64*_;rw[HV.out]
    generalize l.getD k 0=x at *;generalize m.getD k 0=y at *;have H1:=hi9 L;have H2:=hi9 an;have H3:=hi9 am;clear L an am I J;by_cases ea:x=y
    ·subst ea;have ht:((x:Int) != x)=false:=by simp
     go_wp2_with fail;refine ee dV dV ?_;intro W hW;have ci:=fT (w:=W) ⟨E,i+k,none⟩ (.int .u64 (x:Int));have cl:=fT (w:=W) ⟨F,j+k,none⟩ (.int .u64 (x:Int));clear hW
     repeat (go_big_quiet_step (fail))
     refine wpQuiet_nil ?_;clear ci cl;intro o A;clear C D;go_wp2
     go_roundw
     case rel=>exact⟨k,by omega,by congr 1,H3.out (by trivial),aa O A⟩
     case measure=>simp [intOf]
    ·have ht:((x:Int) != y)=true:=by simp;omega
     by_cases hx:x<y
     ·have bq:(x:Int)<y:=by omega
      go_wp2_with fail;refine ee dV dV ?_;intro W hW;have cn:=fT (w:=W) ⟨E,i+k,none⟩ (.int .u64 (x:Int));have cr:=fT (w:=W) ⟨F,j+k,none⟩ (.int .u64 (y:Int));clear hW
      repeat (go_big_quiet_step (fail))
      refine wpQuiet_nil ?_;clear cn cr;intro o A;have bz:=A.cell M C;have cc:=A.cell N D;have dq:E<o.heap.size:=ad M A.size;have dr:F<o.heap.size:=ad N A.size;clear C D;go_wp2_with fail;refine ee dV dV ?_;intro W hW;have cs:=fT (w:=W) ⟨E,i+k,none⟩ (.int .u64 (x:Int));have cx:=fT (w:=W) ⟨F,j+k,none⟩ (.int .u64 (y:Int));clear hW
      repeat (go_big_quiet_step ((go_at_call 132;exact gF (iV _ _ _))))
      refine wpQuiet_nil ?_;clear cs cx;intro w2 B;go_wp2_with fail;go_ret;have:=H1.out hx;exact⟨er (by unfold cmpV cmpZ;rw[if_pos this,if_pos bq]),aa (aa O A) B⟩
     ·have bq:¬ (x:Int)<y:=by omega
      go_wp2_with fail;refine ee dV dV ?_;intro W hW;have cz:=fT (w:=W) ⟨E,i+k,none⟩ (.int .u64 (x:Int));have dk:=fT (w:=W) ⟨F,j+k,none⟩ (.int .u64 (y:Int));clear hW
      repeat (go_big_quiet_step (fail))
      refine wpQuiet_nil ?_;clear cz dk;intro o A;have bz:=A.cell M C;have cc:=A.cell N D;have dq:E<o.heap.size:=ad M A.size;have dr:F<o.heap.size:=ad N A.size;clear C D;go_wp2_with fail;refine ee dV dV ?_;intro W hW;have dl:=fT (w:=W) ⟨E,i+k,none⟩ (.int .u64 (x:Int));have bi:=fT (w:=W) ⟨F,j+k,none⟩ (.int .u64 (y:Int));clear hW
      repeat (go_big_quiet_step ((go_at_call 132;exact gF (iV _ _ _))))
      refine wpQuiet_nil ?_;clear dl bi;intro w2 B;go_wp2_with fail;go_ret;have:=H2.out dT;exact⟨er (by unfold cmpV cmpZ;rw[if_neg dT,if_neg dT,if_neg dT,if_neg dT]),aa (aa O A) B⟩
 ·have h1:=fun h=>eE Z c h;have h2:=fun h=>eE c Z h;have eb:((l.length:Int) != (m.length:Int))=true:=by simp;omega
  by_cases L:l.length<m.length
  ·have hv:cmpV (val l) (val m)= -1:=by unfold cmpV;rw[if_pos (h1 L)]
   rw[hv];clear h1 h2 hv;generalize l.length=n at *;generalize m.length=k at *;have hz:cmpZ (n:Int) k= -1:=by unfold cmpZ;rw[if_pos dT]
   go_enter Tryz.func77,Tryz.ntmps77;go_wp2_with fail;refine(iU n k _).mono ?_;rintro e w2 ⟨rfl,B⟩;go_wp2_with fail;go_ret;exact⟨er (by first|rfl|exact hz),B⟩
  ·have U:m.length<l.length:=by omega
   have hv:cmpV (val l) (val m)=1:=by unfold cmpV;rw[if_neg (by have:=h2 U;omega),if_neg (by have:=h2 U;omega)]
   rw[hv];clear h1 h2 hv;generalize l.length=n at *;generalize m.length=k at *;have hz:cmpZ (n:Int) k=1:=by unfold cmpZ;rw[if_neg dT,if_neg dT]
   go_enter Tryz.func77,Tryz.ntmps77;go_wp2_with fail;refine(iU n k _).mono ?_;rintro e w2 ⟨rfl,B⟩;go_wp2_with fail;go_ret;exact⟨er (by first|rfl|exact hz),B⟩
end Go.Proofs.YtfnkkkcojnffdaaGreatDoor.EN
namespace Go.Proofs.YtfnkkkcojnffdaaGreatDoor
open Go.ChangeShapes Go.WideShapes Go.ChangeAt Go.RowKit
open BN
theorem Sl.cases {w:World} {v:Value} {l:List Nat} (h:Sl w v l):
  (l=[]∧∃ a c,v= .slice a 0 c)∨(l≠[]∧∃ b o c,v= .slice (some ⟨b,o,none⟩) l.length c∧l.length≤c∧b<w.heap.size∧Row w b o l):=by
 obtain⟨-,h|⟨b,o,c,e,B,hb,C⟩⟩:=h
 ·exact Or.inl h
 ·by_cases A:l=[]
  ·subst A;exact Or.inl ⟨rfl,_,c,e⟩
  ·exact Or.inr ⟨A,b,o,c,e,B,hb,C⟩
theorem gP {l:List Nat} (h:okw l) (k:Nat) (E:k<l.length) (D:l.getD k 0≠0):canon (l.take (k+1)):=by
 refine⟨fq h _,fun C=> ?_⟩;have e:=fC E;have:(l.take (k+1)).getLast C=l.getD k 0:=by
  have:∀ (m:List Nat) (B:m≠[]),m=l.take k++[l.getD k 0]→m.getLast B=l.getD k 0:=by
   intro m B A;subst A;simp
  exact this _ C e
 rw[this];exact D
theorem trim_c (w:World) (v:Value) (l:List Nat) (K:Sl w v l) (m:l.length≤1048576):
  Calls Tryz.prog 173 #[v] w (ef w (val l)):=by
 have F:=K.1;rcases Sl.cases K with ⟨rfl,a,c,rfl⟩|⟨Y,b,o,c,rfl,Z,hb,S⟩
 ·cases a
  all_goals
   go_enter Tryz.func173,Tryz.ntmps173;go_wp2;refine wp_loop_rounds 1 ?_;rw[rounds_succ];go_wp2;go_ret;exact⟨_,rfl,af _,[],⟨fb,Or.inl ⟨rfl,_,_,rfl⟩⟩,eQ,rfl⟩
 ·generalize R:l.length=n at *;have N:=hi9 S;have E:=hi9 R;clear S R K;go_enter Tryz.func173,Tryz.ntmps173;go_wp2
  go_loop [3] (fun M=>∃ k:Nat,k≤n∧M= .int .i64 k∧val (l.take k)=val l) (fun M=>(intOf M).toNat)
  case atStart=>exact⟨n,ay _,rfl,by rw[← E.out,List.take_length]⟩
  case round=>
   obtain⟨k,j,rfl,hv⟩:=hrel;have I:=hi9 hv;clear hv;cases k with
   |zero=>
    go_wp2;go_ret;have L:val l=0:=by rw[← I.out];simp [val]
    exact⟨_,rfl,af _,[],⟨fb,Or.inl ⟨rfl,_,_,rfl⟩⟩,eQ,by rw[L];rfl⟩
   |succ k=>
    have C:=N.out k (by rw[E.out];omega);have D:k<l.length:=by rw[E.out];omega
    have B:=eI D;have A:=gP F k D;generalize l.getD k 0=d at C B A;by_cases O:d=0
    ·subst O;have W:=hi9 B;clear B A D;go_wp2
     go_round
     case rel=>exact⟨k,by omega,by go_num,by rw[← I.out,W.out];simp⟩
     case measure=>simp [intOf]
    ·have X:((d:Int)==0)=false:=by simp;omega
     have U:=hi9 A;clear B A;go_wp2;go_ret;refine⟨_,rfl,af _,l.take (k+1),⟨fq F _,Or.inr ⟨b,o,c,?_,?_,hb,fun i hi=> ?_⟩⟩,U.out O,I.out⟩
     ·rw[aR,E.out,bE dT];simp
     ·rw[aR];omega
     ·have J:i<k+1:=by rw[aR] at hi;omega
      have:=N.out i (by rw[E.out];omega);rw[this]
      congr 3
      rw[ab,ab,dP J]
theorem q1Q (w:World) (d0 d1:Nat) (e:TypeId) (B:d0<2^32) (h1:d1<2^32):
  Sl (w.alloc (.cells #[.int .u32 (d0:Int),.int .u32 (d1:Int)] e)) (.slice (some ⟨w.heap.size,0,none⟩) 2 2) [d0,d1]:=by
 refine⟨fun d A=> ?_,Or.inr ⟨w.heap.size,0,2,rfl,ay _,by simp,fun i hi=> ?_⟩⟩
 ·simp at A;rcases A with rfl|rfl<;>assumption
 ·rw[az,World.cell?_alloc_at _ _ _ _ rfl];have:i=0∨i=1:=by simp at hi;omega
  rcases this with rfl|rfl<;>rfl
theorem fM (w:World) (x:Nat) (I:x<2^64):
  Calls Tryz.prog 151 #[.int .u64 x] w (ef w x):=by
 have D:IntKind.u32.wrap (x:Int)=((x%2^32:Nat):Int):=by rw[IntKind.wrap_u32];omega
 have E:IntKind.u32.wrap ((x:Int)/4294967296)=((x/2^32:Nat):Int):=by rw[IntKind.wrap_u32];omega
 have hv:val [x%2^32,x/2^32]=x:=by simp [val];omega
 have C:Hid _:=fun w=>trim_c _ _ _ (q1Q w (x%2^32) (x/2^32) 149 dT dT) eO;rw[hv] at C;generalize x%2^32=d0 at *;generalize x/2^32=d1 at *;clear hv;go_enter Tryz.func151,Tryz.ntmps151;go_wp2_with fail;refine(C.out w).mono ?_;rintro e J ⟨F,rfl,A,B⟩;go_wp2;go_ret;exact⟨F,rfl,aa ((af _).alloc _) A,B⟩
def cmpV (a b:Nat):Int:=if a<b then -1 else if a=b then 0 else 1
/-- The cells of a slice, in a form that serves the empty one too. -/
theorem ei {w:World} {v:Value} {l:List Nat} (h:Sl w v l):∃ a c,v= .slice a l.length c∧l.length≤c∧∀ i,i<l.length→∃ b o,a=some ⟨b,o,none⟩∧b<w.heap.size∧w.cell? ⟨b,o+i,none⟩=some (.int .u32 (l.getD i 0:Nat)):=by
 rcases Sl.cases h with ⟨rfl,a,c,rfl⟩|⟨B,b,o,c,rfl,A,hb,C⟩
 ·exact⟨a,c,rfl,bo _,fun i hi=>by simp at hi⟩
 ·exact⟨_,c,rfl,A,fun i hi=>⟨b,o,rfl,hb,C i hi⟩⟩
theorem gN (w:World) (va vb:Value) (a b K:Nat) (hK:K≤1048576) (ha:Num w va a) (hb:Num w vb b) (s:a<2^(32*K)) (al:b<2^(32*K)):
  Calls Tryz.prog 125 #[va,vb] w fun e w'=>e= .returned (.int .i64 (cmpV a b))∧G w w':=by
 obtain⟨l,hl,Y,rfl⟩:=ha;obtain⟨m,hm,Z,rfl⟩:=hb;have cd:=dX Y s;have ce:=dX Z al;clear s al;have ap:=hl.1;have bi:=hm.1;obtain⟨pa,ca,rfl,bu,bn⟩:=ei hl;obtain⟨pb,cb,rfl,bv,bq⟩:=ei hm;have HA:=hi9 bn;have HB:=hi9 bq;clear bn bq hl hm;by_cases c:l.length=m.length
 ·generalize hn:m.length=n at *;have HN:=hi9 c;have HM:=hi9 hn;rw[c];have ek:(n:Int)≤1048576:=by omega
  have em:((n:Int) != (n:Int))=false:=by simp
  clear c hn cd ce bu bv;go_enter Tryz.func125,Tryz.ntmps125;go_wp2
  go_loopw [5] (fun vk wr=>∃ k:Nat,k≤n∧vk= .int .i64 ((k:Int)-1)∧val (l.drop k)=val (m.drop k)∧G w wr) (fun vk _=>(intOf vk+1).toNat)
  case atStart=>exact⟨n,ay _,rfl,by rw[List.drop_of_length_le (by rw[HN.out];exact ay _),List.drop_of_length_le (by rw[HM.out];exact ay _)],af _⟩
  case round=>
   obtain⟨k,hk,rfl,hv,N⟩:=hrel;have HV:=hi9 hv;clear hv;cases k with
   |zero=>
    go_wp2;go_ret;have ds:val l=val m:=by have:=HV.out;simpa using this
    exact⟨er (by unfold cmpV;rw[if_neg dT,if_pos ds]),N⟩
   |succ k=>
    obtain⟨D,i,rfl,U,O⟩:=HA.out k (by rw[HN.out];omega);obtain⟨E,j,rfl,X,R⟩:=HB.out k dT;have B:=N.cell (p:=⟨D,i+k,none⟩) U O;have C:=N.cell (p:=⟨E,j+k,none⟩) X R;have L:D<wr.heap.size:=ad U N.size;have M:E<wr.heap.size:=ad X N.size;clear O R U X;have F:k<l.length:=by rw[HN.out];omega
    have I:k<m.length:=by rw[HM.out];omega
    have J:=iA ap F I HV.out;have an:=iA bi I F HV.out.symm;have am:l.getD k 0=m.getD k 0→val (l.drop k)=val (m.drop k):=by
     intro h;rw[eg F,eg I,h];show _+2^32*_=_+2^32*_;rw[HV.out]
    generalize l.getD k 0=x at *;generalize m.getD k 0=y at *;have H1:=hi9 J;have H2:=hi9 an;have H3:=hi9 am;clear J an am F I;by_cases eb:x=y
    ·subst eb;have ht:((x:Int) != x)=false:=by simp
     go_wp2_with fail;refine ee dV dV ?_;intro W hW;have ci:=fT (w:=W) ⟨D,i+k,none⟩ (.int .u32 (x:Int));have cl:=fT (w:=W) ⟨E,j+k,none⟩ (.int .u32 (x:Int));clear hW
     repeat (go_big_quiet_step (fail))
     refine wpQuiet_nil ?_;clear ci cl;intro o A;clear B C;go_wp2
     go_roundw
     case rel=>exact⟨k,by omega,by congr 1,H3.out (by trivial),aa N A⟩
     case measure=>simp [intOf]
    ·have ht:((x:Int) != y)=true:=by simp;omega
     by_cases hx:x<y
     ·have ea:(x:Int)<y:=by omega
      go_wp2_with fail;refine ee dV dV ?_;intro W hW;have cn:=fT (w:=W) ⟨D,i+k,none⟩ (.int .u32 (x:Int));have cr:=fT (w:=W) ⟨E,j+k,none⟩ (.int .u32 (y:Int));clear hW
      repeat (go_big_quiet_step (fail))
      refine wpQuiet_nil ?_;clear cn cr;intro o A;have bz:=A.cell L B;have cc:=A.cell M C;have dq:D<o.heap.size:=ad L A.size;have dr:E<o.heap.size:=ad M A.size;clear B C;go_wp2_with fail;refine ee dV dV ?_;intro W hW;have cs:=fT (w:=W) ⟨D,i+k,none⟩ (.int .u32 (x:Int));have cx:=fT (w:=W) ⟨E,j+k,none⟩ (.int .u32 (y:Int));clear hW
      repeat (go_big_quiet_step (fail))
      refine wpQuiet_nil ?_;clear cs cx;intro w2 d;go_wp2;go_ret;have:=H1.out hx;exact⟨er (by unfold cmpV;rw[if_pos this]),aa (aa N A) d⟩
     ·have ea:¬ (x:Int)<y:=by omega
      go_wp2_with fail;refine ee dV dV ?_;intro W hW;have cz:=fT (w:=W) ⟨D,i+k,none⟩ (.int .u32 (x:Int));have dk:=fT (w:=W) ⟨E,j+k,none⟩ (.int .u32 (y:Int));clear hW
      repeat (go_big_quiet_step (fail))
      refine wpQuiet_nil ?_;clear cz dk;intro o A;have bz:=A.cell L B;have cc:=A.cell M C;have dq:D<o.heap.size:=ad L A.size;have dr:E<o.heap.size:=ad M A.size;clear B C;go_wp2_with fail;refine ee dV dV ?_;intro W hW;have dl:=fT (w:=W) ⟨D,i+k,none⟩ (.int .u32 (x:Int));have bl:=fT (w:=W) ⟨E,j+k,none⟩ (.int .u32 (y:Int));clear hW
      repeat (go_big_quiet_step (fail))
      refine wpQuiet_nil ?_;clear dl bl;intro w2 d;go_wp2;go_ret;have:=H2.out dT;exact⟨er (by unfold cmpV;rw[if_neg dT,if_neg dT]),aa (aa N A) d⟩
 ·have h1:=fun h=>eE Y Z h;have h2:=fun h=>eE Z Y h;have ec:((l.length:Int) != (m.length:Int))=true:=by simp;omega
  by_cases J:l.length<m.length
  ·have hv:cmpV (val l) (val m)= -1:=by unfold cmpV;rw[if_pos (h1 J)]
   rw[hv];clear h1 h2 hv;generalize l.length=n at *;generalize m.length=k at *;have ao:(n:Int)<k:=by omega
   go_enter Tryz.func125,Tryz.ntmps125;go_wp2;go_ret;exact⟨rfl,af _⟩
  ·have S:m.length<l.length:=by omega
   have hv:cmpV (val l) (val m)=1:=by unfold cmpV;rw[if_neg (by have:=h2 S;omega),if_neg (by have:=h2 S;omega)]
   rw[hv];clear h1 h2 hv;generalize l.length=n at *;generalize m.length=k at *;have ao:¬ (n:Int)<k:=by omega
   go_enter Tryz.func125,Tryz.ntmps125;go_wp2;go_ret;exact⟨rfl,af _⟩
theorem nB:(Tryz.prog.info? 149).map (fun i=>(i.zero,i.size,i.bytes))=some (some (.int .u32 0),1,4):=by kernel_rfl
/-- 'make([]uint32, n)', in every world. -/
theorem fc (n:Nat) (A:n≤2097152) (w:World):(Instr.makeSlice 41 (.int .i64 (n:Int)) (.int .i64 (n:Int))).run Tryz.prog w= .ok (.slice (some ⟨w.heap.size,0,none⟩) n n) (w.alloc (.cells (madeCells #[.int .u32 0] n) 149)):=
 run_make_row' 41 149 (.int .u32 0) 4 Tryz.underlying41 nB rfl .i64 .i64 n dT dT w
/-- One step of a sum. -/
theorem kU {cs l m:List Nat} {k c n:Nat} (E:k<n) (A:cs.length=n+1) (B:okw l) (C:okw m) (D:c≤1)
  (h:val (cs.take k)+2^(32*k)*c=val (l.take k)+val (m.take k)):
  (c+l.getD k 0+m.getD k 0)/2^32≤1∧
  val ((cs.set k ((c+l.getD k 0+m.getD k 0)%2^32)).take (k+1))+2^(32*(k+1))*((c+l.getD k 0+m.getD k 0)/2^32)=val (l.take (k+1))+val (m.take (k+1)):=by
 have h1:=dW B k;have h2:=dW C k;rw[en dT,ed l,ed m];generalize l.getD k 0=x at *;generalize m.getD k 0=y at *;refine⟨by omega,?_⟩;rw[show 32*(k+1)=32*k+32 from by omega,ah,aj,bR,← ax];have:(c+x+y)%2^32+2^32*((c+x+y)/2^32)=c+x+y:=Nat.mod_add_div _ _;rw[this,ax,ax];omega
/-- A row of our own, trimmed. -/
theorem eC {w:World} {b n:Nat} {cs:List Nat} (h:Own w b cs) (A:cs.length=n) (B:n≤1048576):
  Calls Tryz.prog 173 #[.slice (some ⟨b,0,none⟩) n n] w (ef w (val cs)):=by
 subst A;exact trim_c _ _ _ (h.sl _ (ay _)) B
theorem kT (w:World) (va vb:Value) (l m:List Nat) (swap:Bool) (hl:Sl w va l) (hm:Sl w vb m) (bz:m.length≤l.length) (ce:l.length≤1048000) (bu:swap=true→m.length<l.length):
  Calls Tryz.prog 150 (if swap then #[vb,va] else #[va,vb]) w (ef w (val l+val m)):=by
 have I:=hl.1;have J:=hm.1;obtain⟨pa,ca,rfl,cc,ao⟩:=ei hl;obtain⟨pb,cb,rfl,cd,ap⟩:=ei hm;have HA:=hi9 ao;have HB:=hi9 ap;clear ao ap hl hm;generalize hn:l.length=n at *;generalize hj:m.length=j at *;have HN:=hi9 hn;have HJ:=hi9 hj;clear hn hj;have bq:=fc (n+1) dT;rw[show ((n+1:Nat):Int)=(n:Int)+1 from by omega] at bq;cases swap
 ·show Calls Tryz.prog 150 #[_,_] w _;have t0:¬ (n:Int)<j:=by omega
  go_enter Tryz.func150,Tryz.ntmps150;go_wp2_with fail
  go_loopw [6,7] (fun vc vk wr=>∃ (k c:Nat) (cs:List Nat),k≤n∧vk= .int .i64 k∧vc= .int .u64 c∧c≤1∧cs.length=n+1∧Own wr w.heap.size cs∧val (cs.take k)+2^(32*k)*c=val (l.take k)+val (m.take k)∧G w wr) (fun _ vk _=>n-(intOf vk).toNat)
  case atStart=>exact⟨0,0,List.replicate (n+1) 0,bo _,rfl,rfl,by omega,by simp,eA w (n+1) 149,by simp [val],(af _).alloc _⟩
  case round=>
   obtain⟨k,c,cs,hk,rfl,rfl,hc,N,D,E,M⟩:=hrel;have HV:=hi9 E;have A:=hi9 N;have F:=hi9 D;clear E N D;have bn:(c:Int)≤1:=by omega
   by_cases O:k<n
   ·obtain⟨b1,o1,rfl,K,B⟩:=HA.out k O;have bi:=M.cell (p:=⟨b1,o1+k,none⟩) K B;clear B K;obtain⟨U,W⟩:=kU O A.out I J hc HV.out;have Y:=hi9 U;have Z:=hi9 W;clear U W;have hx:=dW I k;have hy:=dW J k;have ho:=Own.cell (w:=wr) (b:=w.heap.size) (l:=cs) (i:=k) F.out (by rw[A.out];omega);have hf:=Own.frozen (w:=wr) (b:=w.heap.size) (l:=cs) (i:=k) F.out (by rw[A.out];omega);have bv:((l.getD k 0:Nat):Int)≤4294967295:=by omega
    have an:((m.getD k 0:Nat):Int)≤4294967295:=by omega
    by_cases s:k<j
    ·obtain⟨b2,o2,rfl,L,C⟩:=HB.out k s;have bl:=M.cell (p:=⟨b2,o2+k,none⟩) L C;clear C L;generalize l.getD k 0=x at *;generalize m.getD k 0=y at *;generalize cs.getD k 0=z at *;have hw:IntKind.u32.wrap ((c:Int)+x+y)=(((c+x+y)%2^32:Nat):Int):=by rw[IntKind.wrap_u32];omega
     have am:((c:Int)+x+y)/4294967296=(((c+x+y)/2^32:Nat):Int):=by omega
     have R:(c+x+y)%2^32<2^32:=by omega
     clear hx hy;generalize (c+x+y)%2^32=r at *;generalize (c+x+y)/2^32=q at *;have X:=hi9 R;clear R;go_wp2_with fail
     go_roundw
     case rel=>exact⟨k+1,q,cs.set k r,by omega,by go_num,rfl,Y.out,by rw[av];exact A.out,Own.set F.out k r (by rw[A.out];omega) X.out,Z.out,M.setCell (ay _) _⟩
     case measure=>simp only[intOf];omega
    ·have S:m.getD k 0=0:=by rw[ab,bj (by rw[HJ.out];omega)];rfl
     rw[S] at Y Z;clear hy an S;generalize l.getD k 0=x at *;generalize cs.getD k 0=z at *;have hw:IntKind.u32.wrap ((c:Int)+x)=(((c+x+0)%2^32:Nat):Int):=by rw[IntKind.wrap_u32];omega
     have am:((c:Int)+x)/4294967296=(((c+x+0)/2^32:Nat):Int):=by omega
     have R:(c+x+0)%2^32<2^32:=by omega
     clear hx;generalize (c+x+0)%2^32=r at *;generalize (c+x+0)/2^32=q at *;have X:=hi9 R;clear R;go_wp2_with fail
     go_roundw
     case rel=>exact⟨k+1,q,cs.set k r,by omega,by go_num,rfl,Y.out,by rw[av];exact A.out,Own.set F.out k r (by rw[A.out];omega) X.out,Z.out,M.setCell (ay _) _⟩
     case measure=>simp only[intOf];omega
   ·obtain rfl:k=n:=by omega
    have ho:=Own.cell (w:=wr) (b:=w.heap.size) (l:=cs) (i:=k) F.out (by rw[A.out];omega);have hf:=Own.frozen (w:=wr) (b:=w.heap.size) (l:=cs) (i:=k) F.out (by rw[A.out];omega);generalize cs.getD k 0=z at *;have hw:IntKind.u32.wrap (c:Int)=(c:Int):=by rw[IntKind.wrap_u32];omega
    have U:Own _ w.heap.size (cs.set k c):=Own.set (F.out:Own wr w.heap.size cs) k c (by rw[A.out];omega) dT;have W:val (cs.set k c)=val l+val m:=by
     have h1:=en (l:=cs) (k:=k) (x:=c) (by rw[A.out];omega);rw[aw (by rw[av,A.out];omega)] at h1;rw[h1,HV.out,aw (by rw[HN.out];omega),aw (by rw[HJ.out];omega)]
    have hT:Hid _:=eC U (n:=k+1) (by rw[av];exact A.out) dT;rw[W] at hT;have d:=M.setCell (p:=⟨w.heap.size,k,none⟩) (ay _) (.int .u32 (c:Int));clear U W;go_wp2_with fail;refine Calls.mono (P:=Tryz.prog) hT.out ?_;rintro e w1 ⟨v1,rfl,o,al⟩;go_wp2_with fail;go_ret;exact⟨v1,rfl,aa d o,al⟩
 ·show Calls Tryz.prog 150 #[_,_] w _;have t0:(j:Int)<n:=by have:=bu rfl;omega
  go_enter Tryz.func150,Tryz.ntmps150;go_wp2_with fail
  go_loopw [6,7] (fun vc vk wr=>∃ (k c:Nat) (cs:List Nat),k≤n∧vk= .int .i64 k∧vc= .int .u64 c∧c≤1∧cs.length=n+1∧Own wr w.heap.size cs∧val (cs.take k)+2^(32*k)*c=val (l.take k)+val (m.take k)∧G w wr) (fun _ vk _=>n-(intOf vk).toNat)
  case atStart=>exact⟨0,0,List.replicate (n+1) 0,bo _,rfl,rfl,by omega,by simp,eA w (n+1) 149,by simp [val],(af _).alloc _⟩
  case round=>
   obtain⟨k,c,cs,hk,rfl,rfl,hc,N,D,E,M⟩:=hrel;have HV:=hi9 E;have A:=hi9 N;have F:=hi9 D;clear E N D;have bn:(c:Int)≤1:=by omega
   by_cases O:k<n
   ·obtain⟨b1,o1,rfl,K,B⟩:=HA.out k O;have bi:=M.cell (p:=⟨b1,o1+k,none⟩) K B;clear B K;obtain⟨U,W⟩:=kU O A.out I J hc HV.out;have Y:=hi9 U;have Z:=hi9 W;clear U W;have hx:=dW I k;have hy:=dW J k;have ho:=Own.cell (w:=wr) (b:=w.heap.size) (l:=cs) (i:=k) F.out (by rw[A.out];omega);have hf:=Own.frozen (w:=wr) (b:=w.heap.size) (l:=cs) (i:=k) F.out (by rw[A.out];omega);have bv:((l.getD k 0:Nat):Int)≤4294967295:=by omega
    have an:((m.getD k 0:Nat):Int)≤4294967295:=by omega
    by_cases s:k<j
    ·obtain⟨b2,o2,rfl,L,C⟩:=HB.out k s;have bl:=M.cell (p:=⟨b2,o2+k,none⟩) L C;clear C L;generalize l.getD k 0=x at *;generalize m.getD k 0=y at *;generalize cs.getD k 0=z at *;have hw:IntKind.u32.wrap ((c:Int)+x+y)=(((c+x+y)%2^32:Nat):Int):=by rw[IntKind.wrap_u32];omega
     have am:((c:Int)+x+y)/4294967296=(((c+x+y)/2^32:Nat):Int):=by omega
     have R:(c+x+y)%2^32<2^32:=by omega
     clear hx hy;generalize (c+x+y)%2^32=r at *;generalize (c+x+y)/2^32=q at *;have X:=hi9 R;clear R;go_wp2_with fail
     go_roundw
     case rel=>exact⟨k+1,q,cs.set k r,by omega,by go_num,rfl,Y.out,by rw[av];exact A.out,Own.set F.out k r (by rw[A.out];omega) X.out,Z.out,M.setCell (ay _) _⟩
     case measure=>simp only[intOf];omega
    ·have S:m.getD k 0=0:=by rw[ab,bj (by rw[HJ.out];omega)];rfl
     rw[S] at Y Z;clear hy an S;generalize l.getD k 0=x at *;generalize cs.getD k 0=z at *;have hw:IntKind.u32.wrap ((c:Int)+x)=(((c+x+0)%2^32:Nat):Int):=by rw[IntKind.wrap_u32];omega
     have am:((c:Int)+x)/4294967296=(((c+x+0)/2^32:Nat):Int):=by omega
     have R:(c+x+0)%2^32<2^32:=by omega
     clear hx;generalize (c+x+0)%2^32=r at *;generalize (c+x+0)/2^32=q at *;have X:=hi9 R;clear R;go_wp2_with fail
     go_roundw
     case rel=>exact⟨k+1,q,cs.set k r,by omega,by go_num,rfl,Y.out,by rw[av];exact A.out,Own.set F.out k r (by rw[A.out];omega) X.out,Z.out,M.setCell (ay _) _⟩
     case measure=>simp only[intOf];omega
   ·obtain rfl:k=n:=by omega
    have ho:=Own.cell (w:=wr) (b:=w.heap.size) (l:=cs) (i:=k) F.out (by rw[A.out];omega);have hf:=Own.frozen (w:=wr) (b:=w.heap.size) (l:=cs) (i:=k) F.out (by rw[A.out];omega);generalize cs.getD k 0=z at *;have hw:IntKind.u32.wrap (c:Int)=(c:Int):=by rw[IntKind.wrap_u32];omega
    have U:Own _ w.heap.size (cs.set k c):=Own.set (F.out:Own wr w.heap.size cs) k c (by rw[A.out];omega) dT;have W:val (cs.set k c)=val l+val m:=by
     have h1:=en (l:=cs) (k:=k) (x:=c) (by rw[A.out];omega);rw[aw (by rw[av,A.out];omega)] at h1;rw[h1,HV.out,aw (by rw[HN.out];omega),aw (by rw[HJ.out];omega)]
    have hT:Hid _:=eC U (n:=k+1) (by rw[av];exact A.out) dT;rw[W] at hT;have d:=M.setCell (p:=⟨w.heap.size,k,none⟩) (ay _) (.int .u32 (c:Int));clear U W;go_wp2_with fail;refine Calls.mono (P:=Tryz.prog) hT.out ?_;rintro e w1 ⟨v1,rfl,o,al⟩;go_wp2_with fail;go_ret;exact⟨v1,rfl,aa d o,al⟩
theorem q15 (w:World) (va A:Value) (a b K:Nat) (N:K≤1048000) (J:Num w va a) (hb:Num w A b) (B:a<2^(32*K)) (C:b<2^(32*K)):
  Calls Tryz.prog 150 #[va,A] w (ef w (a+b)):=by
 obtain⟨l,F,D,rfl⟩:=J;obtain⟨m,I,E,rfl⟩:=hb;have L:=dX D B;have M:=dX E C;by_cases h:m.length≤l.length
 ·exact kT w va A l m false F I h dT eO
 ·rw[bt];exact kT w A va m l true I F dT dT (fun _=>by omega)
theorem fh (w:World) (a:Option Addr) (c:Nat):Num w (.slice a 0 c) 0:=⟨[],⟨fb,Or.inl ⟨rfl,_,_,rfl⟩⟩,eQ,rfl⟩
theorem fZ (n:Nat):val (List.replicate n 0)=0:=by
 induction n with
 |zero=>rfl
 |succ n A=>rw[List.replicate_succ];simp [val,A]
theorem iB {l:List Nat} {p r:Nat} (h:p<l.length):val (l.set p r)+2^(32*p)*l.getD p 0=val l+2^(32*p)*r:=by
 have h1:=ew (l:=l.set p r) (k:=p) (by simpa using h);have h2:=ew h;rw[eT,eh h,bP dT] at h1;rw[h1,h2,ax,ax];omega
/-- One step of a product's row. -/
theorem qc {cs m:List Nat} {i t N c x P r q:Nat} (A:i+t<N) (C:N≤cs.length)
  (h:val (cs.take N)+2^(32*(i+t))*c=P+2^(32*i)*(x*val (m.take t)))
  (B:c+(x*m.getD t 0+cs.getD (i+t) 0)=r+2^32*q):
  val ((cs.set (i+t) r).take N)+2^(32*(i+(t+1)))*q=P+2^(32*i)*(x*val (m.take (t+1))):=by
 have h1:=iB (l:=cs.take N) (p:=i+t) (r:=r) (by rw[aR];omega);rw[List.take_set];have h2:(cs.take N).getD (i+t) 0=cs.getD (i+t) 0:=by
  rw[ab,ab,dP A]
 rw[h2] at h1;rw[ed m,ax x,ax (2^(32*i)),← bR P,← h];rw[show 32*(i+(t+1))=32*(i+t)+32 from by omega,ah,aj];rw[show 2^(32*i)*(x*(2^(32*t)*m.getD t 0))=2^(32*(i+t))*(x*m.getD t 0) from by
  rw[ax,ah,aj,bX x]]
 have h3:2^(32*(i+t))*(c+(x*m.getD t 0+cs.getD (i+t) 0))=2^(32*(i+t))*(r+2^32*q):=by rw[B]
 rw[ax (2^(32*(i+t))),ax (2^(32*(i+t))),ax (2^(32*(i+t)))] at h3;omega
/-- The end of a product's row. -/
theorem q0H {cs l m:List Nat} {i j c P:Nat} (hi:i+j<cs.length) (B:m.length=j)
  (A:P=val (l.take i)*val m)
  (h:val (cs.take (i+j))+2^(32*(i+j))*c=P+2^(32*i)*(l.getD i 0*val (m.take j))):
  val ((cs.set (i+j) c).take (i+1+j))=val (l.take (i+1))*val m:=by
 rw[show i+1+j=i+j+1 from by omega,en hi,h,aw dT,A,ed l,aH,aj]
theorem q1Y (c x y z:Nat) (A:c<2^32) (B:x<2^32) (C:y<2^32) (D:z<2^32):
  ∃ p r q:Nat,(x:Int)*y=p∧p≤18446744065119617025∧IntKind.u32.wrap ((c:Int)+(p+z))=r∧((c:Int)+(p+z))/4294967296=q∧q<2^32∧r<2^32∧c+(x*y+z)=r+2^32*q:=by
 have h:x*y≤4294967295*4294967295:=cj dT dT;refine⟨x*y,(c+(x*y+z))%2^32,(c+(x*y+z))/2^32,by push_cast;rfl,by omega,?_,?_,?_,?_,?_⟩
 ·rw[IntKind.wrap_u32];generalize x*y=p at *;omega
 all_goals generalize x*y=p at *;omega
theorem q1b (w:World) (va vb:Value) (a b K:Nat) (hK:K≤500000) (ha:Num w va a) (hb:Num w vb b) (U:a<2^(32*K)) (X:b<2^(32*K)):
  Calls Tryz.prog 115 #[va,vb] w (ef w (a*b)):=by
 obtain⟨l,hl,bi,rfl⟩:=ha;obtain⟨m,hm,bl,rfl⟩:=hb;have cz:=dX bi U;have dk:=dX bl X;clear U X;have Y:=hl.1;have Z:=hm.1;obtain⟨pa,ca,rfl,cl,d⟩:=ei hl;obtain⟨pb,cb,rfl,cn,k⟩:=ei hm;have HA:=hi9 d;have HB:=hi9 k;clear d k hl hm;generalize hn:l.length=n at *;generalize hj:m.length=j at *;have HN:=hi9 hn;have HJ:=hi9 hj;clear hn hj;by_cases bv:n=0
 ·subst bv;have R:l=[]:=aC HN.out;subst R;go_enter Tryz.func115,Tryz.ntmps115;go_wp2_with fail;go_ret;exact⟨_,rfl,af _,by rw[show val []=0 from rfl,bJ];exact fh _ _ _⟩
 by_cases bq:j=0
 ·subst bq;have R:m=[]:=aC HJ.out;subst R;have t0:((n:Int)==0)=false:=by simp;omega
  go_enter Tryz.func115,Tryz.ntmps115;go_wp2_with fail;go_ret;exact⟨_,rfl,af _,by rw[show val []=0 from rfl,bm];exact fh _ _ _⟩
 have t0:((n:Int)==0)=false:=by simp;omega
 have t1:((j:Int)==0)=false:=by simp;omega
 have bu:=fc (n+j) dT;rw[show ((n+j:Nat):Int)=(n:Int)+j from by omega] at bu;go_enter Tryz.func115,Tryz.ntmps115;go_wp2_with fail
 go_loopw [6] (fun vk wr=>∃ (i:Nat) (cs:List Nat),i≤n∧vk= .int .i64 i∧cs.length=n+j∧Own wr w.heap.size cs∧val (cs.take (i+j))=val (l.take i)*val m∧G w wr) (fun vk _=>n-(intOf vk).toNat)
 case atStart=>exact⟨0,List.replicate (n+j) 0,bo _,rfl,by simp,eA w (n+j) 149,by rw[List.take_replicate,fZ];simp [val],(af _).alloc _⟩
 case round=>
  obtain⟨i,cs,hi,rfl,E,C,D,F⟩:=hrel;have HV:=hi9 D;have s:=hi9 E;have HO:=hi9 C;clear D E C;by_cases bn:i<n
  ·obtain⟨b1,o1,rfl,M,J⟩:=HA.out i bn;have hx:=dW Y i;go_wp2_with fail
   go_loopw [7,8] (fun vc vt wr=>∃ (t c:Nat) (cs:List Nat),t≤j∧vt= .int .i64 t∧vc= .int .u64 c∧c<2^32∧cs.length=n+j∧Own wr w.heap.size cs∧val (cs.take (i+j))+2^(32*(i+t))*c=val (l.take i)*val m+2^(32*i)*(l.getD i 0*val (m.take t))∧G w wr) (fun _ vt _=>j-(intOf vt).toNat)
   case atStart=>exact⟨0,0,cs,bo _,rfl,rfl,by omega,s.out,HO.out,by rw[HV.out];simp [val],F⟩
   case round=>
    obtain⟨t,c,cs,ht,rfl,rfl,hc,E,C,D,F⟩:=hrel;have S:=hi9 D;have A:=hi9 E;have B:=hi9 C;clear D E C;have cr:(c:Int)≤4294967295:=by omega
    by_cases ci:t<j
    ·obtain⟨b2,o2,rfl,O,L⟩:=HB.out t ci;have ao:=F.cell (p:=⟨b1,o1+i,none⟩) M J;have ap:=F.cell (p:=⟨b2,o2+t,none⟩) O L;clear J L;have hy:=dW Z t;have hz:=dW (B.out:Own wr w.heap.size cs).1 (i+t);have ho:=Own.cell (w:=wr) (b:=w.heap.size) (l:=cs) (i:=i+t) B.out (by rw[A.out];omega);have hf:=Own.frozen (w:=wr) (b:=w.heap.size) (l:=cs) (i:=i+t) B.out (by rw[A.out];omega);obtain⟨p,r,q,eb,dq,ec,ek,hq,hr,he⟩:=q1Y c _ _ _ hc hx hy hz;have HS:Hid _:=qc (N:=i+j) dT (by rw[A.out];omega) S.out he;have HQ:=hi9 hq;have HR:=hi9 hr;have em:((l.getD i 0:Nat):Int)≤4294967295:=by omega
     have ep:((m.getD t 0:Nat):Int)≤4294967295:=by omega
     have fs:((cs.getD (i+t) 0:Nat):Int)≤4294967295:=by omega
     have dr:(p:Int)≤18446744065119617025:=by omega
     generalize l.getD i 0=x at *;generalize m.getD t 0=y at *;generalize cs.getD (i+t) 0=z at *;clear hq hr he hx hy hz;have ds:b1<wr.heap.size:=ad M F.size;have ea:b2<wr.heap.size:=ad O F.size;have o:w.heap.size<wr.heap.size:=(B.out:Own wr w.heap.size cs).2.1;clear M O;go_wp2_with fail;refine ee dV dV ?_;intro W hW;have cc:=fT (w:=W) ⟨b1,o1+i,none⟩ (.int .u32 (x:Int));have cd:=fT (w:=W) ⟨b2,o2+t,none⟩ (.int .u32 (y:Int));have ce:=fT (w:=W) ⟨w.heap.size,i+t,none⟩ (.int .u32 (z:Int));clear hW
     repeat (go_big_quiet_step (fail))
     refine wpQuiet_nil ?_;clear cc cd ce;intro w1 I;have dl:=I.cell o ho;have cx:=I.frozen o hf;have al:Hid (Own w1 w.heap.size cs):=Own.grow B.out I;have am:=F.trans I;clear ho hf ao ap;go_wp2_with fail
     go_roundw
     case rel=>exact⟨t+1,q,cs.set (i+t) r,by omega,by go_num,rfl,HQ.out,by rw[av];exact A.out,Own.set al.out (i+t) r (by rw[A.out];omega) HR.out,HS.out,am.setCell (ay _) _⟩
     case measure=>simp only[intOf];omega
    ·obtain rfl:t=j:=by omega
     have ho:=Own.cell (w:=wr) (b:=w.heap.size) (l:=cs) (i:=i+t) B.out (by rw[A.out];omega);have hf:=Own.frozen (w:=wr) (b:=w.heap.size) (l:=cs) (i:=i+t) B.out (by rw[A.out];omega);generalize cs.getD (i+t) 0=z at *;have HK:Hid (c<2^32):=hc;have HS:Hid _:=q0H (l:=l) (m:=m) (by rw[A.out];omega) HJ.out rfl S.out;clear hc;go_wp2_with fail
     go_roundw
     case rel=>exact⟨i+1,cs.set (i+t) c,by omega,by go_num,by rw[av];exact A.out,Own.set B.out (i+t) c (by rw[A.out];omega) HK.out,HS.out,F.setCell (ay _) _⟩
     case measure=>simp only[intOf];omega
  ·obtain rfl:i=n:=by omega
   have hT:=hi9 (eC (HO.out:Own wr w.heap.size cs) s.out dT);have q2:val cs=val l*val m:=by
    have h1:=HV.out
    rwa[aw (by rw[s.out];omega),aw (by rw[HN.out];omega)] at h1
   rw[q2] at hT;clear q2;go_wp2_with fail;refine Calls.mono (P:=Tryz.prog) hT.out ?_;rintro e w1 ⟨v1,rfl,an,bz⟩;go_wp2_with fail;go_ret;exact⟨v1,rfl,aa F an,bz⟩
theorem fH (n t:Nat):(List.replicate n 0).getD t 0=0:=by
 rw[ab,List.getElem?_replicate];split<;>rfl
theorem gJ (w:World) (va:Value) (a:Nat) (O:Num w va a):
  Calls Tryz.prog 199 #[va] w fun e W=>e= .returned (.int .u64 ((a%2^64:Nat):Int))∧G w W:=by
 obtain⟨l,I,F,rfl⟩:=O;have B:=I.1;rcases Sl.cases I with ⟨rfl,p,c,rfl⟩|⟨A,b,o,c,rfl,X,hb,J⟩
 ·rw[show val []%2^64=0 from rfl];go_enter Tryz.func199,Tryz.ntmps199;go_wp2_with fail;go_ret;exact⟨rfl,af _⟩
 ·have L:=J 0 (bD.2 A);rw[aP] at L;have E:=dW B 0;by_cases C:l.length=1
  ·have hv:val l%2^64=l.getD 0 0:=by
    match l,C with
    |[d],_=>simp only[val,List.getD_cons_zero] at E ⊢;omega
   rw[hv,C] at *;generalize l.getD 0 0=d0 at *;have K:(d0:Int)≤4294967295:=by omega
   clear J hv E I F B A;go_enter Tryz.func199,Tryz.ntmps199;go_wp2_with fail;go_ret;exact⟨rfl,af _⟩
  ·have D:1<l.length:=by have:=bD.2 A;omega
   have U:=J 1 D;have h1:=dW B 1;have hv:val l%2^64=l.getD 0 0+l.getD 1 0*2^32:=by
    match l,D with
    |d::e::l',_=>simp only[val,List.getD_cons_zero,List.getD_cons_succ] at E h1 ⊢;omega
   rw[hv];generalize l.getD 0 0=d0 at *;generalize l.getD 1 0=d1 at *;have K:(d0:Int)≤4294967295:=by omega
   have N:(d1:Int)≤4294967295:=by omega
   have S:bits .or .u64 (d0:Int) ((d1:Int)*4294967296)=((d0+d1*2^32:Nat):Int):=by
    have M:(d1:Int)*4294967296=((d1*2^32:Nat):Int):=by omega
    rw[M,u64_or_nat d0 (d1*2^32) dT dT,dO,nat_join 32 (d1*2^32) d0 dT E,bt]
   generalize d0+d1*2^32=u at *;generalize l.length=k at *;have R:(1:Int)<k:=by omega
   clear J hv E h1 I F B A C D;go_enter Tryz.func199,Tryz.ntmps199;go_wp2_with fail;go_ret;exact⟨rfl,af _⟩
theorem mz (x y s:Nat) (K:x<2^32) (J:s≤31) (L:y<2^s):∃ v lo hi:Nat,
  IntKind.u64.wrap ((x:Int)*2^s)=v∧bits .or .u32 (y:Int) ((v:Int)%4294967296)=lo∧bits .or .u32 (0:Int) ((v:Int)/4294967296%4294967296)=hi∧lo<2^32∧hi<2^s∧hi<2^32∧y+x*2^s=lo+2^32*hi:=by
 have O:2^s≤2^31:=ak dT J;have A:=ae s;have D:x*2^s<2^32*2^s:=aD K A;have C:x*2^s%2^32=(x%2^(32-s))*2^s:=by
  have:2^32=2^(32-s)*2^s:=by rw[← ah];congr 1;omega
  rw[this,cG]
 have E:(x%2^(32-s))*2^s+2^s≤2^32:=by
  have h1:x%2^(32-s)<2^(32-s):=aU _ (ae _);have h2:(x%2^(32-s)+1)*2^s≤2^(32-s)*2^s:=aq _ h1;rw[← ah,show 32-s+s=32 from by omega,aH,aW] at h2;exact h2
 have F:x*2^s%2^32%2^s=0:=by rw[C];exact dQ _ _
 have M:x*2^s/2^32<2^s:=Nat.div_lt_of_lt_mul D;have I:((x:Int)*2^s)=((x*2^s:Nat):Int):=by push_cast;rfl
 rw[← C] at E;rw[I];generalize N:x*2^s=v at *;generalize B:2^s=R at *;refine⟨v,v%2^32+y,v/2^32,?_,?_,?_,by omega,by omega,by omega,by omega⟩
 ·rw[IntKind.wrap_u64];omega
 ·rw[show (v:Int)%4294967296=((v%2^32:Nat):Int) from by omega,u32_or_nat _ _ dT dT,dO];subst B;rw[nat_join s _ y F L]
 ·rw[show (v:Int)/4294967296%4294967296=((v/2^32:Nat):Int) from by omega];have:=u32_or_nat 0 (v/2^32) dT dT;rw[Nat.zero_or] at this;exact this
theorem getD_set_ne {l:List Nat} {i t x:Nat} (h:i≠t):(l.set i x).getD t 0=l.getD t 0:=by
 rw[ab,ab,aS h]
/-- One step of a shift to the left. -/
theorem left_step {cs l:List Nat} {i q s n lo hi:Nat} (C:i+q+1<cs.length) (B:n=32*q+s)
  (hv:val (cs.take (i+q+1))=val (l.take i)*2^n) (A:cs.getD (i+q) 0+l.getD i 0*2^s=lo+2^32*hi):
  val (((cs.set (i+q) lo).set (i+q+1) hi).take (i+1+q+1))=val (l.take (i+1))*2^n:=by
 rw[show i+1+q+1=i+q+1+1 from by omega,en (by rw[av];exact C),en dT,ed l,aH,← hv,ed cs];rw[show 2^(32*i)*l.getD i 0*2^n=2^(32*(i+q))*(l.getD i 0*2^s) from by
  rw[B,ax 32 i q,ah,ah];rw[aj,aj,bX (l.getD i 0)]]
 have h3:2^(32*(i+q))*(cs.getD (i+q) 0+l.getD i 0*2^s)=2^(32*(i+q))*(lo+2^32*hi):=by rw[A]
 rw[ax (2^(32*(i+q))),ax (2^(32*(i+q)))] at h3;rw[show 32*(i+q+1)=32*(i+q)+32 from by omega,ah,aj];omega
theorem gR (w:World) (va:Value) (a n K:Nat) (hK:K≤500000) (hn:n≤10000000) (ha:Num w va a) (L:a<2^(32*K)):
  Calls Tryz.prog 186 #[va,.int .u64 (n:Int)] w (ef w (a*2^n)):=by
 obtain⟨l,hl,y,rfl⟩:=ha;have bz:=dX y L;clear L;have W:=hl.1;obtain⟨pa,ca,rfl,bn,X⟩:=ei hl;have HA:=hi9 X;clear X hl;generalize R:l.length=j at *;have HN:=hi9 R;clear R;by_cases am:j=0
 ·subst am;have an:l=[]:=aC HN.out;subst an;go_enter Tryz.func186,Tryz.ntmps186;go_wp2_with fail;go_ret;exact⟨_,rfl,af _,by rw[show val []=0 from rfl,bJ];exact fh _ _ _⟩
 have t0:((j:Int)==0)=false:=by simp;omega
 have bq:(n:Int)/32=((n/32:Nat):Int):=by omega
 have bu:(n:Int)%32=((n%32:Nat):Int):=by omega
 have U:n=32*(n/32)+n%32:=by omega
 have hs:((n%32:Nat):Int)≤31:=by omega
 have hq:((n/32:Nat):Int)≤312500:=by omega
 generalize n/32=q at *;generalize n%32=s at *;have k:=hi9 U;have cb:(n:Int)≤10000000:=by omega
 clear U hn;have ao:=fc (j+q+1) dT;rw[show ((j+q+1:Nat):Int)=(j:Int)+q+1 from by omega] at ao;go_enter Tryz.func186,Tryz.ntmps186;go_wp2_with fail
 go_loopw [8] (fun vk wr=>∃ (i:Nat) (cs:List Nat),i≤j∧vk= .int .i64 i∧cs.length=j+q+1∧Own wr w.heap.size cs∧val (cs.take (i+q+1))=val (l.take i)*2^n∧cs.getD (i+q) 0<2^s∧(∀ t,i+q<t→cs.getD t 0=0)∧G w wr) (fun vk _=>j-(intOf vk).toNat)
 case atStart=>exact⟨0,List.replicate (j+q+1) 0,bo _,rfl,by simp,eA w (j+q+1) 149,by rw[List.take_replicate,fZ];simp [val],by rw[fH];exact ae _,fun t _=>fH _ _,(af _).alloc _⟩
 case round=>
  obtain⟨i,cs,hi,rfl,M,E,F,D,Y,m⟩:=hrel;have HV:=hi9 F;have A:=hi9 M;have I:=hi9 E;have HL:=hi9 D;have HU:=hi9 Y;clear F M E D Y;by_cases al:i<j
  ·obtain⟨b1,o1,rfl,J,B⟩:=HA.out i al;have hx:=dW W i;have bl:=m.cell (p:=⟨b1,o1+i,none⟩) J B;clear B J;have ho:=Own.cell (w:=wr) (b:=w.heap.size) (l:=cs) (i:=i+q) I.out (by rw[A.out];omega);have hf:=Own.frozen (w:=wr) (b:=w.heap.size) (l:=cs) (i:=i+q) I.out (by rw[A.out];omega);have bi:=Own.cell (w:=wr) (b:=w.heap.size) (l:=cs) (i:=i+q+1) I.out (by rw[A.out];omega);have bv:=Own.frozen (w:=wr) (b:=w.heap.size) (l:=cs) (i:=i+q+1) I.out (by rw[A.out];omega);have hu:=HU.out (i+q+1) dT;rw[hu] at bi;obtain⟨v,lo,O,cc,cd,ce,S,N,C,he⟩:=mz _ _ s hx dT HL.out;have HS:Hid _:=left_step (by rw[A.out];omega) k.out HV.out he;have d:=hi9 S;have c:=hi9 N;have Z:=hi9 C;have ci:((l.getD i 0:Nat):Int)≤4294967295:=by omega
   generalize l.getD i 0=x at *;generalize cs.getD (i+q) 0=z at *;clear S N C he hx hu;go_wp2_with fail
   go_roundw
   case rel=>exact⟨i+1,(cs.set (i+q) lo).set (i+q+1) O,by omega,by go_num,by rw[av,av];exact A.out,Own.set (Own.set I.out (i+q) lo (by rw[A.out];omega) d.out) (i+q+1) O (by rw[av,A.out];omega) Z.out,HS.out,by rw[show i+1+q=i+q+1 from by omega,eh (by rw[av,A.out];omega)];exact c.out,fun t ht=>by rw[getD_set_ne dT,getD_set_ne dT];exact HU.out t dT,(m.setCell (ay _) _).setCell (ay _) _⟩
   case measure=>simp only[intOf];omega
  ·obtain rfl:i=j:=by omega
   have hT:=hi9 (eC (I.out:Own wr w.heap.size cs) A.out dT);have q2:val cs=val l*2^n:=by
    have h1:=HV.out
    rwa[aw (by rw[A.out];omega),aw (by rw[HN.out];omega)] at h1
   rw[q2] at hT;clear q2;go_wp2_with fail;refine Calls.mono (P:=Tryz.prog) hT.out ?_;rintro e w1 ⟨v1,rfl,o,ap⟩;go_wp2_with fail;go_ret;exact⟨v1,rfl,aa m o,ap⟩
theorem fG {l:List Nat} (h:okw l) (k:Nat):val (l.drop k)=val l/2^(32*k):=by
 by_cases A:k≤l.length
 ·have h1:=ez l k A;have h2:=et h k A;rw[h1,de _ _ (ae _),aN h2,az]
 ·rw[aL dT];have h1:=eo h;have h2:2^(32*l.length)≤2^(32*k):=ak dT dT;rw[aN dT];rfl
theorem lO (x y Z s:Nat) (A:s≤31):(x+2^32*(y+2^32*Z))/2^s%2^32=(x+y*2^32)/2^s%2^32:=by
 have e:x+2^32*(y+2^32*Z)=(x+y*2^32)+2^s*(2^32*(2^(32-s)*Z)):=by
  have:2^s*(2^32*(2^(32-s)*Z))=2^32*(2^32*Z):=by
   rw[bX,← aj (2^s),← ah,show s+(32-s)=32 from by omega]
  rw[this];omega
 rw[e,de _ _ (ae _),dM]
theorem q0L (x y s:Nat) (A:x<2^32) (B:y<2^32):∃ v d:Nat,
  bits .or .u64 (x:Int) ((y:Int)*4294967296)=v∧IntKind.u32.wrap ((v:Int)/2^s)=d∧d<2^32∧d=(x+y*2^32)/2^s%2^32:=by
 refine⟨x+y*2^32,(x+y*2^32)/2^s%2^32,?_,?_,aU _ dT,rfl⟩
 ·rw[show (y:Int)*4294967296=((y*2^32:Nat):Int) from by omega,u64_or_nat _ _ dT dT,dO,nat_join 32 _ x dT A,bt]
 ·rw[IntKind.wrap_u32];generalize x+y*2^32=v;have:(v:Int)/2^s=((v/2^s:Nat):Int):=by push_cast;rfl
  rw[this];omega
/-- One step of a shift to the right. -/
theorem right_step {cs l:List Nat} {i q s d W:Nat} (C:okw l) (hi:i<cs.length) (A:W=val (l.drop q)/2^s) (E:s≤31)
  (hv:val (cs.take i)=W%2^(32*i)) (D:i+q<l.length) (B:d=(l.getD (i+q) 0+l.getD (i+q+1) 0*2^32)/2^s%2^32):
  val ((cs.set i d).take (i+1))=W%2^(32*(i+1)):=by
 rw[en hi,hv,show 32*(i+1)=32*i+32 from by omega,ah,Nat.mod_mul]
 congr 2
 have h1:W/2^(32*i)=val (l.drop (i+q))/2^s:=by
  rw[A,bL,aF,← bL,← fG (gz C q),List.drop_drop,bt q i]
 rw[h1,B,eg D];have h2:val (l.drop (i+q+1))=l.getD (i+q+1) 0+2^32*val (l.drop (i+q+2)):=by
  by_cases h:i+q+1<l.length
  ·rw[eg h];rfl
  ·rw[aL dT,aL dT,ab,bj dT];rfl
 show _=(l.getD (i+q) 0+2^32*val (l.drop (i+q+1)))/2^s%2^32;rw[h2,lO _ _ _ _ E]
theorem fL (w:World) (va:Value) (a n K:Nat) (hK:K≤1000000) (hn:n≤40000000) (ha:Num w va a) (O:a<2^(32*K)):
  Calls Tryz.prog 157 #[va,.int .u64 (n:Int)] w (ef w (a/2^n)):=by
 obtain⟨l,hl,al,rfl⟩:=ha;have cc:=dX al O;clear O;have A:=hl.1;obtain⟨pa,ca,rfl,bq,Y⟩:=ei hl;have HA:=hi9 Y;clear Y hl;have bu:(n:Int)/32=((n/32:Nat):Int):=by omega
 have bv:(n:Int)%32=((n%32:Nat):Int):=by omega
 have X:n=32*(n/32)+n%32:=by omega
 have hs:((n%32:Nat):Int)≤31:=by omega
 have hq:((n/32:Nat):Int)≤1250000:=by omega
 generalize n/32=q at *;generalize n%32=s at *;have I:=hi9 X;have ce:(n:Int)≤40000000:=by omega
 clear X hn;by_cases ci:l.length≤q
 ·have hz:val l/2^n=0:=by
   have h1:=eo A;have h2:2^(32*l.length)≤2^n:=ak dT (by rw[I.out];omega);exact aN dT
  rw[hz];generalize l.length=j at *;have t0:(j:Int)≤q:=by omega
  go_enter Tryz.func157,Tryz.ntmps157;go_wp2_with fail;go_ret;exact⟨_,rfl,af _,fh _ _ _⟩
 ·generalize W:l.length=j at *;have m:=hi9 W;clear W;have t0:¬ (j:Int)≤q:=by omega
  obtain⟨k,hk⟩:∃ k,j=k+q:=⟨j-q,by omega⟩;have bz:(j:Int)-q=k:=by omega
  have cb:(k:Int)≤1000000:=by omega
  have cd:=fc k dT;have HK:=hi9 hk;clear hk;go_enter Tryz.func157,Tryz.ntmps157;go_wp2_with fail
  go_loopw [8] (fun vk wr=>∃ (i:Nat) (cs:List Nat),i≤k∧vk= .int .i64 i∧cs.length=k∧Own wr w.heap.size cs∧val (cs.take i)=val (l.drop q)/2^s%2^(32*i)∧G w wr) (fun vk _=>k-(intOf vk).toNat)
  case atStart=>exact⟨0,List.replicate k 0,bo _,rfl,by simp,eA w k 149,by simp [val,Nat.mod_one],(af _).alloc _⟩
  case round=>
   obtain⟨i,cs,hi,rfl,R,E,F,N⟩:=hrel;have HV:=hi9 F;have B:=hi9 R;have J:=hi9 E;clear F R E;by_cases an:i<k
   ·have S:i+q<j:=by have:=HK.out;omega
    obtain⟨b1,o1,rfl,L,C⟩:=HA.out (i+q) S;have bl:=N.cell (p:=⟨b1,o1+(i+q),none⟩) L C;clear C L;have hx:=dW A (i+q);have hy:=dW A (i+q+1);have ho:=Own.cell (w:=wr) (b:=w.heap.size) (l:=cs) (i:=i) J.out (by rw[B.out];omega);have hf:=Own.frozen (w:=wr) (b:=w.heap.size) (l:=cs) (i:=i) J.out (by rw[B.out];omega);obtain⟨v,d,Z,ap,hd,he⟩:=q0L _ _ s hx hy;have HS:Hid _:=right_step (cs:=cs) (d:=d) A (by rw[B.out];exact an) rfl dT HV.out (by rw[m.out];exact S) he;have HD:=hi9 hd;have cl:((l.getD (i+q) 0:Nat):Int)≤4294967295:=by omega
    have bi:((l.getD (i+q+1) 0:Nat):Int)≤4294967295:=by omega
    by_cases U:i+q+1<j
    ·obtain⟨b2,o2,am,M,D⟩:=HA.out (i+q+1) U;cases am;have bn:=N.cell (p:=⟨b1,o1+(i+q+1),none⟩) M D;clear D M;generalize l.getD (i+q) 0=x at *;generalize l.getD (i+q+1) 0=y at *;generalize cs.getD i 0=z at *;clear hd he hx hy;go_wp2_with fail
     go_roundw
     case rel=>exact⟨i+1,cs.set i d,by omega,by go_num,by rw[av];exact B.out,Own.set J.out i d (by rw[B.out];omega) HD.out,HS.out,N.setCell (ay _) _⟩
     case measure=>simp only[intOf];omega
    ·have c:l.getD (i+q+1) 0=0:=by rw[ab,bj (by rw[m.out];omega)];rfl
     have hv:(v:Int)=((l.getD (i+q) 0:Nat):Int):=by
      rw[← Z,c];have:=u64_or_nat (l.getD (i+q) 0) 0 dT dT;rw[Nat.or_zero] at this;exact this
     rw[hv] at ap;generalize l.getD (i+q) 0=x at *;generalize cs.getD i 0=z at *;clear hd he hx hy c Z hv bi;go_wp2_with fail
     go_roundw
     case rel=>exact⟨i+1,cs.set i d,by omega,by go_num,by rw[av];exact B.out,Own.set J.out i d (by rw[B.out];omega) HD.out,HS.out,N.setCell (ay _) _⟩
     case measure=>simp only[intOf];omega
   ·obtain rfl:i=k:=by omega
    have hT:=hi9 (eC (J.out:Own wr w.heap.size cs) B.out dT);have q2:val cs=val l/2^n:=by
     have h1:=HV.out;rw[aw (by rw[B.out];omega)] at h1;have h2:=eo (gz A q);rw[bO,m.out,HK.out,dK] at h2;rw[h1,aM (aG (bh _ _) h2),fG A,bL,← ah,I.out]
    rw[q2] at hT;clear q2;go_wp2_with fail;refine Calls.mono (P:=Tryz.prog) hT.out ?_;rintro e w1 ⟨v1,rfl,o,ao⟩;go_wp2_with fail;go_ret;exact⟨v1,rfl,aa N o,ao⟩
theorem q0S (r x d:Nat) (B:r<d) (C:x<2^32) (D:d<2^32):∃ R q A:Nat,
  bits .or .u64 ((r:Int)*4294967296) (x:Int)=R∧IntKind.u64.wrap ((R:Int)/d)=q∧(q:Int)%4294967296=q∧(R:Int)%d=A∧A<d∧q<2^32∧r*2^32+x=q*d+A:=by
 have h1:(r*2^32+x)/d<2^32:=by
  rw[aX dT];have:(r+1)*2^32≤d*2^32:=aq _ B;rw[aF (2^32) d];omega
 refine⟨r*2^32+x,(r*2^32+x)/d,(r*2^32+x)%d,?_,?_,?_,?_,aU _ dT,h1,?_⟩
 ·rw[show (r:Int)*4294967296=((r*2^32:Nat):Int) from by omega,u64_or_nat _ _ dT dT,nat_join 32 _ x dT C]
 ·rw[IntKind.wrap_u64,← dm];generalize (r*2^32+x)/d=q at *;omega
 ·generalize (r*2^32+x)/d=q at *;omega
 ·rw[← cT]
 ·exact(Nat.div_add_mod' _ _).symm
/-- One step of a division by a word. -/
theorem mT {cs l:List Nat} {k r q A d:Nat} (B:k<cs.length) (C:k<l.length)
  (hv:val (l.drop (k+1))=val (cs.drop (k+1))*d+r) (D:r*2^32+l.getD k 0=q*d+A):
  val (l.drop k)=val ((cs.set k q).drop k)*d+A:=by
 rw[eg C,eg (l:=cs.set k q) (by simpa using B),eh B,bP dT];show l.getD k 0+2^32*val (l.drop (k+1))=(q+2^32*val (cs.drop (k+1)))*d+A;rw[hv,aH,ax,← aj];omega
theorem nO (w:World) (va:Value) (a d K:Nat) (hK:K≤1000000) (J:0<d) (hd:d<2^32) (ha:Num w va a) (F:a<2^(32*K)):
  Calls Tryz.prog 130 #[va,.int .u32 (d:Int)] w fun e w'=>∃ v,e= .returned (.tuple #[v,.int .u32 ((a%d:Nat):Int)])∧G w w'∧Num w' v (a/d):=by
 obtain⟨l,Y,X,rfl⟩:=ha;have ap:=dX X F;clear F;have M:=Y.1;obtain⟨pa,ca,rfl,am,O⟩:=ei Y;have HA:=hi9 O;clear O Y;generalize L:l.length=j at *;have HN:=hi9 L;clear L;have bi:=fc j dT;have an:(d:Int)≤4294967295:=by omega
 have ao:((d:Int)==0)=false:=by simp;omega
 go_enter Tryz.func130,Tryz.ntmps130;go_wp2_with fail
 go_loopw [7,8] (fun vr y wr=>∃ (t r:Nat) (cs:List Nat),t≤j∧y= .int .i64 ((t:Int)-1)∧vr= .int .u64 r∧r<d∧cs.length=j∧Own wr w.heap.size cs∧val (l.drop t)=val (cs.drop t)*d+r∧G w wr) (fun _ y _=>(intOf y+1).toNat)
 case atStart=>exact⟨j,0,List.replicate j 0,ay _,rfl,rfl,J,by simp,eA w j 149,by rw[aL (by rw[HN.out];exact ay _),aL eO];simp [val],(af _).alloc _⟩
 case round=>
  obtain⟨t,r,cs,ht,rfl,rfl,c,I,B,C,U⟩:=hrel;have HV:=hi9 C;have D:=hi9 I;have S:=hi9 B;clear C I B;cases t with
  |succ k=>
   obtain⟨b1,o1,rfl,E,A⟩:=HA.out k dT;have al:=U.cell (p:=⟨b1,o1+k,none⟩) E A;clear A E;have hx:=dW M k;have ho:=Own.cell (w:=wr) (b:=w.heap.size) (l:=cs) (i:=k) S.out (by rw[D.out];omega);have hf:=Own.frozen (w:=wr) (b:=w.heap.size) (l:=cs) (i:=k) S.out (by rw[D.out];omega);obtain⟨R,q,r',bl,bn,bq,o,N,hq,he⟩:=q0S r _ d c hx hd;have HS:Hid _:=mT (cs:=cs) (l:=l) (by rw[D.out];omega) (by rw[HN.out];omega) HV.out he;have HQ:=hi9 hq;have HR:=hi9 N;have bu:((l.getD k 0:Nat):Int)≤4294967295:=by omega
   have m:(r:Int)≤4294967295:=by omega
   generalize l.getD k 0=x at *;generalize cs.getD k 0=z at *;clear he hq N hx;go_wp2_with fail;simp only[o]
   go_roundw
   case rel=>exact⟨k,r',cs.set k q,by omega,by congr 1,rfl,HR.out,by rw[av];exact D.out,Own.set S.out k q (by rw[D.out];omega) HQ.out,HS.out,U.setCell (ay _) _⟩
   case measure=>simp [intOf]
  |zero=>
   have hT:=hi9 (eC (S.out:Own wr w.heap.size cs) D.out dT);have s:val l=val cs*d+r:=HV.out;have q2:val cs=val l/d:=by
    rw[s,aF,Nat.mul_add_div J,aN c,aP]
   have q3:r=val l%d:=by
    rw[s,aF,Nat.mul_add_mod,aM c]
   rw[q2] at hT;have Q3:=hi9 q3;have hw:IntKind.u32.wrap (r:Int)=(r:Int):=by rw[IntKind.wrap_u32];omega
   have m:(r:Int)≤4294967295:=by omega
   clear s q2 q3;go_wp2_with fail;refine Calls.mono (P:=Tryz.prog) hT.out ?_;rintro e w1 ⟨v1,rfl,W,Z⟩;go_wp2_with fail
   go_ret2
   exact⟨v1,by rw[← Q3.out];rfl,aa U W,Z⟩
/-- The length of a number in bits. -/
def blen (a:Nat):Nat:=if a=0 then 0 else a.log2+1
theorem nj {a k:Nat} (h:a<2^k) (h2:k=0∨2^(k-1)≤a):blen a=k:=by
 unfold blen;rcases bK k with rfl|A
 ·rw[if_pos (by simpa using h)]
 ·have h3:2^(k-1)≤a:=by rcases h2 with h2|h2;omega;exact h2
  have:=ae (k-1);rw[if_neg dT,(cV dT).2 ⟨h3,by rw[Nat.sub_add_cancel A];exact h⟩];omega
theorem gi {l:List Nat} {n:Nat} (h:canon l) (A:l.length=n+1):l.getD n 0≠0:=by
 have B:l≠[]:=by intro e;rw[e] at A;simp at A
 have:=h.2 B;rw[List.getLast_eq_getElem] at this;rw[ab,aB dT];simpa [A] using this
theorem pY (w:World) (va:Value) (a K:Nat) (hK:K≤1000000) (s:Num w va a) (D:a<2^(32*K)):
  Calls Tryz.prog 133 #[va] w fun e w'=>e= .returned (.int .i64 (blen a))∧G w w':=by
 obtain⟨l,R,E,rfl⟩:=s;have an:=dX E D;clear D;have A:=R.1;obtain⟨pa,ca,rfl,al,J⟩:=ei R;have c:=hi9 J;clear J R;generalize I:l.length=j at *;have C:=hi9 I;clear I;cases j with
 |zero=>
  have S:l=[]:=aC C.out;subst S;rw[show blen (val [])=0 from rfl];go_enter Tryz.func133,Tryz.ntmps133;go_wp2_with fail;go_ret;exact⟨rfl,af _⟩
 |succ n=>
  obtain⟨b1,o1,rfl,o,y⟩:=c.out n dT;have hx:=dW A n;have B:=gi E C.out;have hv:∀ k,k≤32→l.getD n 0<2^k→2^(k-1)≤l.getD n 0→blen (val l)=n*32+k:=by
   intro k X h1 h2;have h3:=ew (l:=l) (k:=n) (by rw[C.out];omega);rw[aL (by rw[C.out];omega)] at h3;have h4:=et A n (by rw[C.out];omega);have am:k≠0:=by rintro rfl;simp at h1;exact B h1
   simp only[val,bm,aP] at h3;refine nj ?_ (Or.inr ?_)
   ·rw[show n*32+k=32*n+k from by omega,ah,h3];have:2^(32*n)*(l.getD n 0+1)≤2^(32*n)*2^k:=au _ h1;rw[ax] at this;omega
   ·rw[show n*32+k-1=32*n+(k-1) from by omega,ah,h3];have:2^(32*n)*2^(k-1)≤2^(32*n)*l.getD n 0:=au _ h2;omega
  have i:=hi9 hv;have bl:((l.getD n 0:Nat):Int)≤4294967295:=by omega
  have O:=hi9 B;generalize l.getD n 0=x at *;generalize blen (val l)=bn at *;clear hv B;go_enter Tryz.func133,Tryz.ntmps133;go_wp2_with fail
  go_loopw [3,4] (fun vn U wr=>∃ k t:Nat,k≤32∧vn= .int .i64 k∧U= .int .u32 t∧t=x/2^k∧(k=0∨2^(k-1)≤x)∧G w wr) (fun _ U _=>(intOf U).toNat)
  case atStart=>exact⟨0,x,by omega,rfl,rfl,by simp,Or.inl rfl,af _⟩
  case round=>
   obtain⟨k,t,X,rfl,rfl,Y,F,W⟩:=hrel;have L:=hi9 Y;have M:=hi9 F;clear Y F;by_cases m:t=0
   ·subst m;have h1:x<2^k:=by
     rcases bg x (2^k) with h|h
     ·exact h
     ·have:=Nat.div_pos h (ae k);have:=L.out;omega
    have h2:2^(k-1)≤x:=by
     rcases M.out with rfl|h
     ·exact absurd (by simpa using h1) O.out
     ·exact h
    have d:=hi9 (i.out k X h1 h2);clear h1 h2;go_wp2_with fail;go_ret;exact⟨by rw[d.out];exact er (by push_cast;omega),W⟩
   ·have t1:((t:Int)==0)=false:=by simp;omega
    have h1:2^k≤x:=by
     rcases bg x (2^k) with h|h
     ·have:=aN h;have:=L.out;omega
     ·exact h
    have h2:k<32:=by
     rcases bg k 32 with h|h
     ·exact h
     ·have:2^32≤2^k:=ak dT h;omega
    have Z:=hi9 h1;obtain⟨u,hu,ao⟩:∃ u:Nat,u=t/2∧(t:Int)/2=u:=⟨t/2,rfl,by omega⟩;have N:=hi9 hu;have bi:u<t:=by omega
    clear hu;have ap:(t:Int)≤4294967295:=by have:=bh x (2^k);have:=L.out;omega
    clear h1;go_wp2_with fail
    go_roundw
    case rel=>exact⟨k+1,u,by omega,by go_num,by rfl,by rw[N.out,L.out,bL,← bF],Or.inr Z.out,W⟩
    case measure=>simp only[intOf];omega
end Go.Proofs.YtfnkkkcojnffdaaGreatDoor
namespace Go.Proofs.YtfnkkkcojnffdaaGreatDoor
open BN
/-! The guess of a digit. -/
/-- No guess is too small: at first. -/
theorem q1t {S W h top P u2:Nat} (E:S<(h*2^32+u2+1)*P) (hu:u2<2^32) (B:top*2^32*P≤W) (C:0<top):S<(h/top+1)*W:=by
 have h1:h<(h/top+1)*top:=by
  have h2:=bY h top;have h3:=aU h C;rw[aH,aW,aF];omega
 have D:(h*2^32+u2+1)*P≤(h/top+1)*top*2^32*P:=aq _ (by
  have:(h+1)*2^32≤(h/top+1)*top*2^32:=aq _ h1;omega)
 have A:(h/top+1)*(top*2^32*P)≤(h/top+1)*W:=au _ B;rw[← aj,← aj] at A;omega
/-- A guess that is told too great is too great. -/
theorem mu {S W g h r top next P u2:Nat} (C:S<(h*2^32+u2+1)*P) (A:(top*2^32+next)*P≤W) (B:g*top+r=h) (D:r*2^32+u2<g*next):S<g*W:=by
 have h1:h*2^32+u2+1≤g*(top*2^32+next):=by
  rw[← B,ax,aH,← aj];omega
 have h2:(h*2^32+u2+1)*P≤g*(top*2^32+next)*P:=aq _ h1;have h3:g*((top*2^32+next)*P)≤g*W:=au _ A;rw[← aj] at h3;omega
theorem ln {S W g:Nat} (A:S<2^32*W) (B:2^32≤g):S<g*W:=
 ad A (aq _ B)
/-- The last guess is at most by one too great. -/
theorem oD {S W g h r top next P u2:Nat} (J:(h*2^32+u2)*P≤S) (B:W<(top*2^32+next+1)*P) (D:2^32*P≤W) (E:g*top+r=h) (A:g<2^32) (K:g*next≤r*2^32+u2):g*W<S+W:=by
 have h1:g*(top*2^32+next)≤h*2^32+u2:=by
  rw[← E,ax,aH,← aj];omega
 have h2:g*(top*2^32+next)*P≤(h*2^32+u2)*P:=aq _ h1;have h3:g*W≤g*((top*2^32+next+1)*P):=au _ (cy B);have F:g*((top*2^32+next+1)*P)=g*(top*2^32+next)*P+g*P:=by
  rw[← aj,ax g,bw,aH]
 have I:0<P:=by
  rcases bK P with rfl|h
  ·simp at B
  ·exact h
 have C:(g+1)*P≤2^32*P:=aq _ A;rw[aH,aW] at C;omega
/-- Where the rest has grown past a word, all is well. -/
theorem oC {g h r top u1 next u2:Nat} (E:h≤top*2^32+u1) (B:u1<2^32) (D:g*top+r=h) (A:2^32≤r) (F:next<2^32):g<2^32∧g*next≤r*2^32+u2:=by
 have h1:g*top<2^32*top:=by rw[aF (2^32)];omega
 have h2:g<2^32:=bN h1;refine⟨h2,?_⟩;have h3:g*next≤2^32*2^32:=cj dT dT
 have C:2^32*2^32≤r*2^32:=aq _ A;omega
/-! Taking away. -/
theorem o6 {us v:List Nat} {j i g c d x y r c' d' A:Nat} (hi:j+i<us.length) (C:us.getD (j+i) 0=x) (D:v.getD i 0=y)
  (h:val us+2^(32*j)*(g*val (v.take i))=A+2^(32*(j+i))*(c+d)) (B:r+g*y+c+d=x+2^32*(c'+d')):
  val (us.set (j+i) r)+2^(32*j)*(g*val (v.take (i+1)))=A+2^(32*(j+(i+1)))*(c'+d'):=by
 have h1:=iB (r:=r) hi;rw[C] at h1;rw[ed v,D,ax g,ax (2^(32*j)),show 2^(32*j)*(g*(2^(32*i)*y))=2^(32*(j+i))*(g*y) from by
  rw[ax,ah,aj,bX g]]
 rw[show 32*(j+(i+1))=32*(j+i)+32 from by omega,ah,aj];have h3:2^(32*(j+i))*(r+g*y+c+d)=2^(32*(j+i))*(x+2^32*(c'+d')):=by rw[B]
 generalize 2^(32*(j+i))=p at *;rw[ax p,ax p,ax p,ax p] at h3;rw[ax p] at h;omega
theorem p7 {us:List Nat} {j n g c d x r d' A V:Nat} (hi:j+n<us.length) (C:us.getD (j+n) 0=x)
  (h:val us+2^(32*j)*(g*V)=A+2^(32*(j+n))*(c+d)) (B:r+c+d=x+2^32*d'):
  val (us.set (j+n) r)+g*(2^(32*j)*V)=A+2^(32*(j+n+1))*d':=by
 have h1:=iB (r:=r) hi;rw[C] at h1;rw[show 32*(j+n+1)=32*(j+n)+32 from by omega,ah,aj,bX g];have h3:2^(32*(j+n))*(r+c+d)=2^(32*(j+n))*(x+2^32*d'):=by rw[B]
 generalize 2^(32*(j+n))=p at *;rw[ax p,ax p,ax p] at h3;rw[ax p] at h;omega
theorem o9 {us v:List Nat} {j i c x y r c' A:Nat} (hi:j+i<us.length) (C:us.getD (j+i) 0=x) (D:v.getD i 0=y)
  (h:val us+2^(32*(j+i))*c=A+2^(32*j)*val (v.take i)) (B:c+(x+y)=r+2^32*c'):
  val (us.set (j+i) r)+2^(32*(j+(i+1)))*c'=A+2^(32*j)*val (v.take (i+1)):=by
 have h1:=iB (r:=r) hi;rw[C] at h1;rw[ed v,D,ax (2^(32*j)),show 2^(32*j)*(2^(32*i)*y)=2^(32*(j+i))*y from by
  rw[ax,ah,aj]]
 rw[show 32*(j+(i+1))=32*(j+i)+32 from by omega,ah,aj];have h3:2^(32*(j+i))*(c+(x+y))=2^(32*(j+i))*(r+2^32*c'):=by rw[B]
 generalize 2^(32*(j+i))=p at *;rw[ax p,ax p,ax p] at h3;omega
theorem pe {us:List Nat} {j n c x r k A V:Nat} (hi:j+n<us.length) (C:us.getD (j+n) 0=x)
  (h:val us+2^(32*(j+n))*c=A+2^(32*j)*V) (B:x+c=r+2^32*k):
  val (us.set (j+n) r)+2^(32*(j+n+1))*k=A+2^(32*j)*V:=by
 have h1:=iB (r:=r) hi;rw[C] at h1;rw[show 32*(j+n+1)=32*(j+n)+32 from by omega,ah,aj];have h3:2^(32*(j+n))*(x+c)=2^(32*(j+n))*(r+2^32*k):=by rw[B]
 generalize 2^(32*(j+n))=p at *;rw[ax p,ax p] at h3;omega
/-- A row whose upper words are nought is below the power. -/
theorem je {l:List Nat} {k:Nat} (h:okw l) (A:val (l.drop k)=0):val l<2^(32*k):=by
 rw[fG h] at A;exact(Nat.div_eq_zero_iff.1 A).resolve_left (by have:=ae (32*k);omega)
theorem fD {l:List Nat} {p k r:Nat} (h:p<k):(l.set p r).drop k=l.drop k:=bP h
/-- A digit that was right. -/
theorem l5 {S g W R d' T:Nat} (A:S<(g+1)*W) (h:R+g*W=S+T*d') (B:d'=0):R+g*W=S∧R<W:=by
 subst B;rw[bm] at h;rw[aH,aW] at A;omega
/-- A digit that was by one too great: what comes of it behind the giving back. -/
theorem ml {S g W R A T k:Nat} (D:S<(g+1)*W) (K:g*W<S+W) (h:R+g*W=S+T) (J:R<T) (hb:A+T*k=R+W) (C:A<T) (E:W≤T):
  A+(g-1)*W=S∧A<W∧0<g:=by
 have F:0<g:=by
  rcases bK g with rfl|B
  ·rw[bJ] at h;omega
  ·exact B
 have h1:(g-1)*W+W=g*W:=by
  obtain⟨t,rfl⟩:∃ t,g=t+1:=⟨g-1,by omega⟩;rw[dK,aH,aW]
 have I:k=1:=by
  rcases k with _|_|k
  ·rw[bm] at hb;omega
  ·rfl
  ·exfalso;have:T*2≤T*(k+1+1):=au _ dT;omega
 subst I;rw[bw] at hb;rw[aH,aW] at D;omega
/-- One digit of the quotient more. -/
theorem ke {us B C:List Nat} {j q V A:Nat} (D:j<C.length) (h:val us+val (C.drop (j+1))*(2^(32*(j+1))*V)=A) (E:val B+q*(2^(32*j)*V)=val us):
  val B+val ((C.set j q).drop j)*(2^(32*j)*V)=A:=by
 rw[eg (l:=C.set j q) (by simpa using D),eh D,bP dT];show val B+(q+2^32*val (C.drop (j+1)))*(2^(32*j)*V)=A;rw[aH,← h,← E,show 32*(j+1)=32+32*j from by omega,ah];generalize val (C.drop (j+1))=z;generalize 2^(32*j)=p;have e:2^32*z*(p*V)=z*(2^32*p*V):=by
  rw[aj (2^32) p,aF (2^32) z,aj]
 rw[e];omega
end Go.Proofs.YtfnkkkcojnffdaaGreatDoor
