/- What is proved here: contracts of package exact's reader of texts: what it refuses, over this seat's translation.
What is proved here: contracts of package exact's reader of texts: what it refuses behind the bar, over this seat's translation.
What is proved here: contracts of the reference's reader of fractions: the classes of bytes, over this seat's translation.
What is proved here: contracts of the reference's big numbers: SetString of a sign and digits, over this seat's translation. -/
import Derived.Test.YtfnkkkcojnffdaaGreatDoorC23
import Derived.Test.YtfnkkkcojnffdaaGreatDoorC1
import Derived.Test.YtfnkkkcojnffdaaGreatDoorC8
import Derived.Test.YtfnkkkcojnffdaaGreatDoorC3
import Derived.Test.YtfnkkkcojnffdaaGreatDoorC22
import Derived.Test.YtfnkkkcojnffdaaGreatDoorC34
import Derived.Test.YtfnkkkcojnffdaaGreatDoorC32
import Derived.Test.YtfnkkkcojnffdaaGreatDoorC41
import Derived.Test.YtfnkkkcojnffdaaGreatDoorC27
import Derived.Test.YtfnkkkcojnffdaaGreatDoorC9
import Derived.Test.YtfnkkkcojnffdaaGreatDoorC10
namespace Go.Proofs.YtfnkkkcojnffdaaGreatDoor.EN
open Go.ChangeShapes Go.WideShapes Go.ChangeAt Go.RowKit
/-- A call hands back a fraction and a fault. -/
def iE (w:World) (q:Rat) (c a:Int) (e:Ending) (A:World):Prop:=∃ v,e= .returned (.tuple #[v,.agg #[.int .i64 c,.int .i64 a]])∧G w A∧QIs A v q
/-- Behind the stores of a fraction and of a fault into blocks of their own. -/
theorem fE {w0 W:World} {B C:Nat} {x y z p q:Value} (x' y' I E F:Value) (K:Rec W B [x,y,z]) (r1:Rec W C [p,q]) (A:B≠C) (g:G w0 W) (J:w0.heap.size≤B) (h1:w0.heap.size≤C):
  ∃ D,(((((W.setCell ⟨B,0,none⟩ x').setCell ⟨B,1,none⟩ y').setCell ⟨B,2,none⟩ I).setCell ⟨C,0,none⟩ E).setCell ⟨C,1,none⟩ F)=D∧G w0 D∧Hid (Rec D B [x',y',I])∧Hid (Rec D C [E,F]):=
 ⟨_,rfl,Rec.g2 (Rec.g3 g J) h1,((Rec.set3 K).oth (p:=⟨C,0,none⟩) _ (bk A)).oth (p:=⟨C,1,none⟩) _ (bk A),Rec.set2 (((r1.oth (p:=⟨B,0,none⟩) _ A).oth (p:=⟨B,1,none⟩) _ A).oth (p:=⟨B,2,none⟩) _ A)⟩
theorem qo {W:World} {A C:Nat} {x y z p q v:Value} {K:Rat} (x' y' I N O:Value) (R:Rec W A [x,y,z]) (r1:Rec W C [p,q]) (B:A≠C) (D:fk x) (L:fk y) (M:fk z) (S:noU p) (U:noU q) (h:QIs W v K):
  QIs (((((W.setCell ⟨A,0,none⟩ x').setCell ⟨A,1,none⟩ y').setCell ⟨A,2,none⟩ I).setCell ⟨C,0,none⟩ N).setCell ⟨C,1,none⟩ O) v K:=by
 have h2:=h.set3 (u1:=x') (u2:=y') (u3:=I) R D L M;have F:=((r1.oth (p:=⟨A,0,none⟩) x' B).oth (p:=⟨A,1,none⟩) y' B).oth (p:=⟨A,2,none⟩) I B;refine h2.apart F (fun x D=>by simp at D;rcases D with rfl|rfl<;>assumption) (fun j k J=> ?_) (by simp [World.setCell]);rw[World.cell?_setCell_other _ _ _ _ (by intro e;injection e with E;exact J E.symm),World.cell?_setCell_other _ _ _ _ (by intro e;injection e with E;exact J E.symm)]
/-- Too long a text. -/
theorem mM (w:World) (s:ByteArray) (A:2000<s.size):Calls Tryz.prog 39 #[.string s] w (iE w 0 2 0):=by
 have t0:decide ((2000:Int)<(s.size:Int))=true:=decide_eq_true dT;clear A;go_enter Tryz.func39,Tryz.ntmps39;go_wp2_with fail;refine bodyPost_ret (v:= .tuple #[.agg #[.bool false,.slice none 0 0,.slice none 0 0],.agg #[.int .i64 2,.int .i64 0]]) (by simp [results,Tryz.results39,go_sem, *]) rfl ?_;exact⟨_,rfl,ny,gp _⟩
theorem q1j (l:List UInt8):Tx ⟨l.toArray⟩ l:=by show l.toArray.toList=l;rfl
theorem oT {s l:List UInt8} (h:Sg s l):Lib.trimPrefix (s++l) [45]=l:=by
 rcases h with rfl|⟨rfl,h⟩
 ·rfl
 ·cases l with
  |nil=>rfl
  |cons c r=>
   unfold Lib.trimPrefix;rw[if_neg]
   ·rfl
   ·intro h2;have h3:45=c:=by simpa [Lib.hasPrefix,List.isPrefixOf] using h2
    exact h r (by rw[h3])
/-- What the sign is cut off. -/
theorem kJ (s:ByteArray) (g l:List UInt8) (D:Tx s (g++l)) (C:Sg g l):∃ B:ByteArray,Tx B l∧∀ A,Calls Tryz.prog 88 #[.string s,.string ⟨#[45]⟩] A fun e E=>e= .returned (.string B)∧E=A:=by
 refine⟨⟨l.toArray⟩,q1j l,fun A=> ?_⟩;have h:=Tryz.strings_TrimPrefix s ⟨#[45]⟩ A;rw[show s.data.toList=g++l from D,show (⟨#[45]⟩:ByteArray).data.toList=[45] from rfl,oT C] at h;exact h
/-- A piece of a text. -/
theorem Tx.cut {s:ByteArray} {p t r:List UInt8} (h:Tx s (p++(t++r))) {a b:Int} (C:a=(p.length:Int)) (hb:b=(p.length:Int)+(t.length:Int)):
  ∃ T,Tx T t∧∀ A,(Instr.slice 9 (.string s) (some (.int .i64 a)) (some (.int .i64 b)) none).run Tryz.prog A= .ok (.string T) A:=by
 have B:=h.size;rw[ag,ag] at B;refine⟨s.extract p.length (p.length+t.length),?_,fun A=> ?_⟩
 ·have h2:=h.part p.length (p.length+t.length);rw[List.drop_left,cR,List.take_left] at h2;exact h2
 ·rw[run_slice_string A 9 s .i64 .i64 a b dV dT dT dT];rw[show a.toNat=p.length from by omega,show b.toNat=p.length+t.length from by omega]
theorem Tx.nil {T:ByteArray} (h:Tx T []):T=⟨#[]⟩:=by
 have h2:T.data.toList=[]:=h;have h3:T.data=#[]:=Array.toList_eq_nil_iff.1 h2;show (⟨T.data⟩:ByteArray)=_;rw[h3]
theorem Tx.some {T:ByteArray} {l:List UInt8} (h:Tx T l) (A:l≠[]):T≠⟨#[]⟩:=by
 intro e;subst e;exact A (show l=[] from(show ([]:List UInt8)=l from h).symm)
set_option maxRecDepth 20000 in
/-- Where the digits ahead of a bar are lacking, or another sign stands behind them. -/
theorem kc (w:World) (s:ByteArray) (g t r:List UInt8) (y:Tx s (g++(t++r))) (hg:Sg g (t++r)) (ht:Digs t) (hr:Stop r) (hn:s.size≤2000) (h0:t=[]∨(t≠[]∧∃ c r',r=c::r'∧c≠47)):
  Calls Tryz.prog 39 #[.string s] w (iE w 0 1 ((g.length+t.length:Nat):Int)):=by
 obtain⟨s1,am,N⟩:=kJ s g (t++r) y hg;have an:Hid (∀ w1,_):=N;have M:Hid (∀ w1,_):=fun w1=>fr w1 s g t r y ht hr dT;have hz:=y.size;have o:=am.size;rw[ag,ag] at hz;rw[ag] at o;have t0:decide ((2000:Int)<(g.length:Int)+((t.length:Int)+(r.length:Int)))=false:=decide_eq_false dT;rcases h0 with h0|⟨h0,c,r',al,hc⟩
 ·subst h0;obtain⟨T,hT,hcut⟩:=y.cut (a:=(g.length:Int)) (b:=(g.length:Int)) rfl (by show _=_+((0:Nat):Int);omega);obtain rfl:=hT.nil;rw[show ([]:List UInt8).length=0 from rfl] at hz o t0 M ⊢;rw[az] at hz o;rw[aP] at M ⊢;rw[show (((0:Nat):Int)+(r.length:Int))=(r.length:Int) from by omega] at t0;generalize g.length=a at *;generalize r.length=m at *;clear y hg ht hr am N hT;go_enter Tryz.func39,Tryz.ntmps39;go_wp2_with fail;obtain⟨w0,O,g0,ap,R0,R1⟩:=fW w [.bool false,.slice none 0 0,.slice none 0 0] [.int .i64 0,.int .i64 0] 29 65;rw[O];clear O;refine dS (an.out _) ?_;rintro e w1 ⟨rfl,rfl⟩;go_wp2_with fail;refine dS (M.out _) ?_;rintro e w2 ⟨rfl,g2⟩;obtain⟨A,B,C,D,E,F⟩:=ev R0 (g2);obtain⟨I,J,K,L⟩:=eU R1 (g2);go_wp2_with fail;obtain⟨w9,e9,g9,Q0,Q1⟩:=fE (.bool false) (.slice none 0 0) (.slice none 0 0) (.int .i64 1) (.int .i64 a) (bs R0.out g2) (bs R1.out g2) dT (aa g0 g2) (ay _) dT;rw[e9];clear e9 A B C D E F I J K L;obtain⟨R,S,U,W,X,Y⟩:=ev Q0 (af _);obtain⟨Z,d,i,j⟩:=eU Q1 (af _);refine bodyPost_ret (v:= .tuple #[.agg #[.bool false,.slice none 0 0,.slice none 0 0],.agg #[.int .i64 1,.int .i64 a]]) (by simp [results,Tryz.results39,go_sem, *]) rfl ?_;exact⟨_,rfl,g9,gp _⟩
 ·obtain⟨k,hk⟩:∃ k,t.length=k+1:=⟨t.length-1,by
   have:t.length≠0:=fun h=>h0 (aC h);omega⟩
  obtain⟨T,hT,hcut⟩:=y.cut (a:=(g.length:Int)) (b:=(g.length:Int)+((k:Int)+1)) rfl (by rw[hk];rfl);have bl:=hT.some h0;obtain⟨m,hm⟩:∃ m,r.length=m+1:=⟨r'.length,by rw[al];rfl⟩;have ao:∀ hi:g.length+t.length<s.size,(s[g.length+t.length]'hi).toNat=c.toNat:=fun hi=>y.at (by rw[aZ dT,cR,aZ dT,dJ,al];rfl) hi;have bi:((c.toNat:Int)==47)=false:=by
   rw[beq_eq_false_iff_ne];intro h;exact hc (UInt8.toNat_inj.1 (by show c.toNat=47;omega))
  rw[hm,hk] at hz o;rw[hk] at M ao ⊢;have t0:decide ((2000:Int)<(g.length:Int)+((k:Int)+1+((m:Int)+1)))=false:=decide_eq_false dT;generalize c.toNat=cn at *;generalize g.length=a at *;clear y hg ht hr am N hT al hc;go_enter Tryz.func39,Tryz.ntmps39;go_wp2_with fail;obtain⟨w0,O,g0,ap,R0,R1⟩:=fW w [.bool false,.slice none 0 0,.slice none 0 0] [.int .i64 0,.int .i64 0] 29 65;rw[O];clear O;refine dS (an.out _) ?_;rintro e w1 ⟨rfl,rfl⟩;go_wp2_with fail;refine dS (M.out _) ?_;rintro e w2 ⟨rfl,g2⟩;obtain⟨A,B,C,D,E,F⟩:=ev R0 (g2);obtain⟨I,J,K,L⟩:=eU R1 (g2);go_wp2_with fail
  all_goals
   obtain⟨w9,e9,g9,Q0,Q1⟩:=fE (.bool false) (.slice none 0 0) (.slice none 0 0) (.int .i64 1) (.int .i64 ((a:Int)+((k:Int)+1))) (bs R0.out g2) (bs R1.out g2) dT (aa g0 g2) (ay _) dT;rw[e9];clear e9 A B C D E F I J K L;obtain⟨R,S,U,W,X,Y⟩:=ev Q0 (af _);obtain⟨Z,d,i,j⟩:=eU Q1 (af _);refine bodyPost_ret (v:= .tuple #[.agg #[.bool false,.slice none 0 0,.slice none 0 0],.agg #[.int .i64 1,.int .i64 ((a:Int)+((k:Int)+1))]]) (by simp [results,Tryz.results39,go_sem, *]) rfl ?_;exact⟨_,rfl,g9,gp _⟩
theorem len_succ {t:List UInt8} (h:t≠[]):∃ k,t.length=k+1:=⟨t.length-1,by
 have:t.length≠0:=fun e=>h (aC e);omega⟩
set_option maxHeartbeats 2000000 in
set_option maxRecDepth 20000 in
/-- Where digits behind the bar are lacking, or something stands behind them. -/
theorem oL (w:World) (s:ByteArray) (g t u v:List UInt8) (X:Tx s (g++(t++47::(u++v)))) (hg:Sg g (t++47::(u++v))) (ht:Digs t) (hu:Digs u) (hv:Stop v) (hn:s.size≤2000) (h0:t≠[]) (hb:u=[]∨v≠[]):
  Calls Tryz.prog 39 #[.string s] w (iE w 0 1 ((g.length+t.length+1+u.length:Nat):Int)):=by
 have hr:Stop (47::(u++v)):=fun c r h=>by cases h;decide
 have Y:Tx s ((g++(t++[47]))++(u++v)):=by
  have h:Tx s (g++(t++47::(u++v))):=X;rw[show g++(t++47::(u++v))=(g++(t++[47]))++(u++v) from by simp] at h;exact h
 obtain⟨s1,i,R⟩:=kJ s g (t++47::(u++v)) X hg;obtain⟨k,W⟩:=len_succ h0;have d:Hid (∀ O,_):=R;have S:Hid (∀ O,_):=fun O=>fr O s g t (47::(u++v)) X ht hr dT;have hz:=X.size;have bv:=i.size;have N:(g++(t++[47])).length=g.length+(k+1)+1:=by rw[ag,ag,W];rfl
 have Z:Hid (∀ O,Calls Tryz.prog 89 #[.string s,.int .i64 ((g.length:Int)+((k:Int)+1)+1)] O fun e w'=>e= .returned (.int .i64 ((g.length:Int)+((k:Int)+1)+1+(u.length:Int)))∧G O w'):=fun O=>by
  have h:=fr O s (g++(t++[47])) u v Y hu hv dT;rw[N] at h;exact h
 obtain⟨T,hT,hcut⟩:=X.cut (a:=(g.length:Int)) (b:=(g.length:Int)+((k:Int)+1)) rfl (by rw[W];rfl);obtain⟨U,hU,bu⟩:=Y.cut (a:=(g.length:Int)+((k:Int)+1)+1) (b:=(g.length:Int)+((k:Int)+1)+1+(u.length:Int)) (by rw[N];omega) (by rw[N];omega);rw[ag,ag,aK,ag,W] at hz;rw[ag,aK,ag,W] at bv;have t0:decide ((2000:Int)<(g.length:Int)+((k:Int)+1+((u.length:Int)+(v.length:Int)+1)))=false:=decide_eq_false dT;have ca:∀ hi:g.length+(k+1)<s.size,(s[g.length+(k+1)]'hi).toNat=47:=fun hi=>X.at (c:=47) (by rw[aZ dT,cR,aZ dT,W,dJ];rfl) hi;rw[W] at S ⊢;have bq:U=⟨#[]⟩∨(U≠⟨#[]⟩∧0<v.length):=by
  rcases hb with rfl|hb
  ·exact Or.inl hU.nil
  ·obtain⟨x,hx⟩:=len_succ hb;by_cases h:U=⟨#[]⟩
   ·exact Or.inl h
   ·exact Or.inr ⟨h,by omega⟩
 have bz:=hT.some h0;generalize g.length=a at *;generalize u.length=n at *;generalize v.length=m at *;clear X hg ht hr i Y R hT hU hb hv hu W N h0;go_enter Tryz.func39,Tryz.ntmps39;go_wp2_with fail;obtain⟨w0,j,g0,cb,R0,R1⟩:=fW w [.bool false,.slice none 0 0,.slice none 0 0] [.int .i64 0,.int .i64 0] 29 65;rw[j];clear j;refine Calls.mono (P:=Tryz.prog) (d.out _) ?_;rintro e O ⟨rfl,rfl⟩;go_wp2_with fail;refine Calls.mono (P:=Tryz.prog) (S.out _) ?_;rintro e w2 ⟨rfl,g2⟩;clear d S;go_wp2_with fail;refine Calls.mono (P:=Tryz.prog) (Z.out _) ?_;rintro e w3 ⟨rfl,g3⟩;have A:=aa g2 g3;clear Z g2 g3;obtain⟨B,C,D,E,F,I⟩:=ev R0 (A);obtain⟨J,K,L,M⟩:=eU R1 (A);rcases bq with rfl|⟨hU,hm⟩
 case' inr=>
  obtain⟨m',rfl⟩:∃ m',m=m'+1:=⟨m-1,by omega⟩;clear hm
 all_goals
  go_wp2_with fail
 all_goals
  obtain⟨w9,e9,g9,Q0,Q1⟩:=fE (.bool false) (.slice none 0 0) (.slice none 0 0) (.int .i64 1) (.int .i64 ((a:Int)+((k:Int)+1)+1+(n:Int))) (bs R0.out A) (bs R1.out A) dT (aa g0 A) (ay _) dT;rw[e9];clear e9 B C D E F I J K L M;obtain⟨o,y,al,am,an,ao⟩:=ev Q0 (af _);obtain⟨ap,bi,bl,bn⟩:=eU Q1 (af _);refine bodyPost_ret (v:= .tuple #[.agg #[.bool false,.slice none 0 0,.slice none 0 0],.agg #[.int .i64 1,.int .i64 ((a:Int)+((k:Int)+1)+1+(n:Int))]]) (by simp [results,Tryz.results39,go_sem, *]) rfl ?_;exact⟨_,rfl,g9,gp _⟩
theorem q09 (w:World) (c:UInt8):Calls Tryz.prog 92 #[.int .u8 (c.toNat:Int)] w fun e F=>e= .returned (.int .i64 (cls c:Nat))∧G w F:=by
 have C:c.toNat<256:=c.toNat_lt;obtain⟨n,D⟩:∃ n,n=c.toNat:=⟨_,rfl⟩;have A:cls c=if n=45 then 1 else if 48≤n∧n≤57 then 2 else if n=47 then 3 else 4:=by
  unfold cls;rw[← D];by_cases h:48≤n∧n≤57
  ·rw[if_pos (isDig_iff.2 dT),if_pos h]
  ·rw[if_neg (show ¬ (gy c=true) from fun e=>h (by have:=isDig_iff.1 e;omega)),if_neg h]
 rw[A,← D];rw[← D] at C;clear A D;by_cases h1:n=45
 ·subst h1;rw[if_pos rfl];go_enter Tryz.func92,Tryz.ntmps92;go_wp2;go_ret;exact⟨rfl,af _⟩
 ·have t1:((n:Int)==45)=false:=by rw[beq_eq_false_iff_ne];omega
  rw[if_neg h1];by_cases h2:48≤n∧n≤57
  ·have t2:decide ((48:Int)≤(n:Int))=true:=decide_eq_true dT;have t3:decide ((n:Int)≤57)=true:=decide_eq_true dT;rw[if_pos h2];clear h1 h2 C;go_enter Tryz.func92,Tryz.ntmps92;go_wp2;go_ret;exact⟨rfl,af _⟩
  ·rw[if_neg h2];have B:n<48∨(48≤n∧57<n):=by omega
   by_cases h3:n=47
   ·subst h3;rw[if_pos rfl];clear t1 h1 h2 B;go_enter Tryz.func92,Tryz.ntmps92;go_wp2;go_ret;exact⟨rfl,af _⟩
   ·have t4:((n:Int)==47)=false:=by rw[beq_eq_false_iff_ne];omega
    rw[if_neg h3];rcases B with h|⟨h,E⟩
    ·have t2:decide ((48:Int)≤(n:Int))=false:=decide_eq_false dT;clear h1 h2 h3 h C;go_enter Tryz.func92,Tryz.ntmps92;go_wp2;go_ret;exact⟨rfl,af _⟩
    ·have t2:decide ((48:Int)≤(n:Int))=true:=decide_eq_true dT;have t3:decide ((n:Int)≤57)=false:=decide_eq_false dT;clear h1 h2 h3 h E C;go_enter Tryz.func92,Tryz.ntmps92;go_wp2;go_ret;exact⟨rfl,af _⟩
end Go.Proofs.YtfnkkkcojnffdaaGreatDoor.EN
namespace Go.Proofs.YtfnkkkcojnffdaaGreatDoor
open Go.ChangeShapes Go.WideShapes Go.ChangeAt Go.RowKit
open BN
open EN (Tx Digs dv)
/-- What stands between the rounds. -/
def kS (t:List UInt8) (w:World) (B A:Value) (wr:World):Prop:=
 ∃ (c r:List UInt8),t=c++r∧A= .int .i64 (c.length:Nat)∧Num wr B (dv 0 c)∧G w wr
set_option maxHeartbeats 4000000 in
set_option maxRecDepth 20000 in
theorem j0 (w0 w:World) (g0:G w0 w) (b:Nat) (hz:NI w0 w b 0) (s:ByteArray) (g t:List UInt8) (hs:Tx s (g++t)) (hg:EN.Sg g t) (ht:Digs t) (h0:t≠[]) (Z:s.size≤2000):
  Calls Tryz.prog 95 #[.pointer (some ⟨b,0,none⟩),.string s,.int .i64 10] w fun e w'=>e= .returned (.tuple #[.pointer (some ⟨b,0,none⟩),.bool true])∧G w0 w'∧NI w0 w' b (sg (decide (0<g.length)) (dv 0 t))∧w.heap.size≤w'.heap.size∧∀ p2 s2,p2≠b→NI w0 w p2 s2→NI w0 w' p2 s2:=by
 obtain⟨K,hK⟩:∃ K:Nat,K=125:=⟨_,rfl⟩;have j:Hid (NI w0 w b 0):=hz;have HG:Hid (G w0 w):=g0;have HD:Hid (Digs t):=ht;have D:=hs.size;rw[ag] at D;have cc:t.length≤2000:=by omega
 have i:Hid (kS t w (.slice none 0 0) (.int .i64 0) w):=⟨[],t,rfl,rfl,fh _ _ _,af _⟩;obtain⟨m,hm⟩:=EN.len_succ h0;have k0:((m:Int)+1==0)=false:=by rw[beq_eq_false_iff_ne];omega
 rcases hg with rfl|⟨rfl,hg⟩
 ·have bu:∀ hi:0<s.size,(s[0]'hi).toNat=45:=fun hi=>hs.at (c:=45) rfl hi;obtain⟨E,bq,hcut⟩:∃ E,Tx E t∧∀ B,(Instr.slice 9 (.string s) (some (.int .i64 1)) none none).run Tryz.prog B= .ok (.string E) B:=by
   refine⟨s.extract 1 s.size,?_,fun B=> ?_⟩
   ·have h:=hs.part 1 s.size;rw[show ([45]++t:List UInt8).drop 1=t from rfl,aw (by rw[D];show t.length≤1+t.length-1;omega)] at h;exact h
   ·rw[run_slice_string_from_if B 9 s .i64 1 dV,if_pos ⟨by omega,by rw[D];show (1:Int)≤((1+t.length:Nat):Int);omega⟩];rfl
  have ao:Hid (Tx E t):=bq;have o:=bq.size;rw[show ([45]:List UInt8).length=1 from rfl,hm] at D;rw[hm] at o;rw[show decide (0<([45]:List UInt8).length)=true from rfl];clear hs bq hz g0 ht h0;go_enter Tryz.func95,Tryz.ntmps95;go_wp2_with fail
  go_loopw [9,10] (fun vr vi wr=>kS t w vr vi wr) (fun _ vi _=>t.length-(intOf vi).toNat)
  case atStart=>exact i.out
  case round=>
   clear i;obtain⟨c,r,A,rfl,Z,hG⟩:=hrel;cases r with
   |nil=>
    rw[bZ] at A;subst A;have bl:Hid (IntIs wr b 0 0):=j.out.2.2.G j.out.2.1 hG;have HN:Hid (Num wr u9 (dv 0 t)):=Z;rw[hm];clear Z;go_wp2_with fail;refine dS (gf (w0:=w) j.out.2.1 hG (gI _ b 0 _ 0 _ _ bl.out HN.out)) ?_;rintro e w3 ⟨rfl,W⟩;have HS:=hi9 (SetTo.step HG.out j.out W);clear W;go_wp2_with fail;refine bodyPost_ret (v:= .tuple #[.pointer (some ⟨b,0,none⟩),.bool true]) (by simp [results,Tryz.results95,go_sem, *]) rfl ?_;exact⟨rfl,HS.out.2⟩
   |cons x r=>
    obtain⟨d,bz,Y⟩:∃ d,d≤9∧x.toNat=48+d:=by
     have h:=EN.isDig_iff.1 (HD.out x (by rw[A];exact cY _ (bS ..)));exact⟨x.toNat-48,by omega,by omega⟩
    have N:t.length=c.length+(r.length+1):=by rw[A,ag,aK]
    have bv:∀ hi:c.length<E.size,(E[c.length]'hi).toNat=48+d:=fun hi=>by
     rw[ao.out.at (c:=x) (by rw[A,aZ dT,dJ];rfl) hi];exact Y
    have L:=EN.dv_bound (l:=c) (K:=K) dT (fun y hy=>HD.out y (by rw[A];exact ck _ hy)) dT;have HC:Hid (dv 0 c<2^(32*(2*K))):=by
     show _<2^(32*(2*K));rw[show 32*(2*K)=64*K from by omega];exact L
    have hv:dv 0 c*10+d=dv 0 (c++[x]):=by
     rw[EN.dv_app];show _=10*dv 0 c+(x.toNat-48);omega
    have HN:Hid (Num wr u9 (dv 0 c)):=Z;have HR:Hid (∀ v4 F,Num F v4 (dv 0 c*10+d)→G w F→kS t w v4 (.int .i64 ((c.length:Int)+1)) F):=fun v4 F h1 h2=>⟨c++[x],r,by rw[A];simp,by rw[ag];rfl,by rw[← hv];exact h1,h2⟩;have t2:decide ((48:Int)≤48+(d:Int))=true:=decide_eq_true dT;have t3:decide ((48:Int)+(d:Int)≤57)=true:=decide_eq_true dT;have t4:decide ((10:Int)≤(d:Int))=false:=decide_eq_false dT;generalize c.length=k at *;generalize r.length=rl at *;have ca:k≤2000:=by omega
    have am:Hid (k<t.length):=by show k<t.length;omega
    have t5:((k:Int)<(m:Int)+1)=True:=eq_true dT;have t6:(k<m+1)=True:=eq_true dT;have t7:(k≤m)=True:=eq_true dT;generalize dv 0 c=X at *;clear Z A L hv Y N;have e8:(48:Int)+(d:Int)-48=(d:Int):=by omega
    have ap:Hid (∀ B,Calls Tryz.prog 151 #[.int .u64 10] B (ef B 10)):=fun B=>fM B 10 dT;have bi:Hid (∀ B,Calls Tryz.prog 151 #[.int .u64 (d:Int)] B (ef B d)):=fun B=>fM B d dT;have bn:2^32≤2^(32*(2*K)):=ak dT dT;have C:Hid (10<2^(32*(2*K))∧d<2^(32*(2*K+1))∧X*10<2^(32*(2*K+1))):=by
     refine⟨by omega,ad (show d<2^32 by omega) (ak dT dT),?_⟩;rw[ax,ah];exact dj HC.out dT
    have I:Hid (2*K+1≤1000):=by show 2*K+1≤1000;omega
    clear bn;go_wp2_with fail;refine dS (ap.out _) ?_;rintro e B ⟨v1,rfl,g1,O⟩;have J:Hid _:=q1b B u9 v1 X 10 (2*K) (by have:=I.out;omega) (HN.out.G g1) O HC.out C.out.1;clear O;go_wp2_with fail;refine dS J.out ?_;rintro e w2 ⟨v2,rfl,g2,R⟩;have an:Hid (Num w2 v2 (X*10)):=R;clear J R;go_wp2_with fail;refine dS (bi.out _) ?_;rintro e w3 ⟨v3,rfl,g3,S⟩;have J:Hid _:=q15 w3 v2 v3 (X*10) d (2*K+1) (by have:=I.out;omega) (an.out.G g3) S C.out.2.2 C.out.2.1;clear S;go_wp2_with fail;refine dS J.out ?_;rintro e F ⟨v4,rfl,g4,U⟩;have HS:=hi9 (HR.out v4 F U (aa (aa (aa (aa hG g1) g2) g3) g4));clear U J;go_wp2_with fail
    go_roundw
    case rel=>exact HS.out
    case measure=>have:=am.out;simp [intOf];omega
 ·obtain⟨c0,r0,M⟩:∃ c0 r0,t=c0::r0:=by
   cases t with
   |nil=>exact absurd rfl h0
   |cons c r=>exact⟨c,r,rfl⟩
  obtain⟨d0,cb,al⟩:∃ d0,d0≤9∧c0.toNat=48+d0:=by
   have h:=EN.isDig_iff.1 (ht c0 (by rw[M];exact bS ..));exact⟨c0.toNat-48,by omega,by omega⟩
  have bu:∀ hi:0<s.size,(s[0]'hi).toNat=48+d0:=fun hi=>by
   rw[hs.at (c:=c0) (by rw[M];rfl) hi];exact al
  have k1:((48:Int)+(d0:Int)==45)=false:=by rw[beq_eq_false_iff_ne];omega
  have k2:((48:Int)+(d0:Int)==43)=false:=by rw[beq_eq_false_iff_ne];omega
  obtain⟨E,rfl⟩:∃ E,E=s:=⟨_,rfl⟩;have ao:Hid (Tx E t):=hs;have o:E.size=m+1:=by rw[D,hm];show 0+(m+1)=_;omega
  rw[show decide (0<([]:List UInt8).length)=false from rfl];clear hs hz g0 ht h0 hg D al M;go_enter Tryz.func95,Tryz.ntmps95;go_wp2_with fail
  go_loopw [9,10] (fun vr vi wr=>kS t w vr vi wr) (fun _ vi _=>t.length-(intOf vi).toNat)
  case atStart=>exact i.out
  case round=>
   clear i;obtain⟨c,r,A,rfl,Z,hG⟩:=hrel;cases r with
   |nil=>
    rw[bZ] at A;subst A;have bl:Hid (IntIs wr b 0 0):=j.out.2.2.G j.out.2.1 hG;have HN:Hid (Num wr u9 (dv 0 t)):=Z;rw[hm];clear Z;go_wp2_with fail;refine dS (gf (w0:=w) j.out.2.1 hG (gI _ b 0 _ 0 _ _ bl.out HN.out)) ?_;rintro e w3 ⟨rfl,W⟩;have HS:=hi9 (SetTo.step HG.out j.out W);clear W;go_wp2_with fail;refine bodyPost_ret (v:= .tuple #[.pointer (some ⟨b,0,none⟩),.bool true]) (by simp [results,Tryz.results95,go_sem, *]) rfl ?_;exact⟨rfl,HS.out.2⟩
   |cons x r=>
    obtain⟨d,bz,Y⟩:∃ d,d≤9∧x.toNat=48+d:=by
     have h:=EN.isDig_iff.1 (HD.out x (by rw[A];exact cY _ (bS ..)));exact⟨x.toNat-48,by omega,by omega⟩
    have N:t.length=c.length+(r.length+1):=by rw[A,ag,aK]
    have bv:∀ hi:c.length<E.size,(E[c.length]'hi).toNat=48+d:=fun hi=>by
     rw[ao.out.at (c:=x) (by rw[A,aZ dT,dJ];rfl) hi];exact Y
    have L:=EN.dv_bound (l:=c) (K:=K) dT (fun y hy=>HD.out y (by rw[A];exact ck _ hy)) dT;have HC:Hid (dv 0 c<2^(32*(2*K))):=by
     show _<2^(32*(2*K));rw[show 32*(2*K)=64*K from by omega];exact L
    have hv:dv 0 c*10+d=dv 0 (c++[x]):=by
     rw[EN.dv_app];show _=10*dv 0 c+(x.toNat-48);omega
    have HN:Hid (Num wr u9 (dv 0 c)):=Z;have HR:Hid (∀ v4 F,Num F v4 (dv 0 c*10+d)→G w F→kS t w v4 (.int .i64 ((c.length:Int)+1)) F):=fun v4 F h1 h2=>⟨c++[x],r,by rw[A];simp,by rw[ag];rfl,by rw[← hv];exact h1,h2⟩;have t2:decide ((48:Int)≤48+(d:Int))=true:=decide_eq_true dT;have t3:decide ((48:Int)+(d:Int)≤57)=true:=decide_eq_true dT;have t4:decide ((10:Int)≤(d:Int))=false:=decide_eq_false dT;generalize c.length=k at *;generalize r.length=rl at *;have ca:k≤2000:=by omega
    have am:Hid (k<t.length):=by show k<t.length;omega
    have t5:((k:Int)<(m:Int)+1)=True:=eq_true dT;have t6:(k<m+1)=True:=eq_true dT;have t7:(k≤m)=True:=eq_true dT;generalize dv 0 c=X at *;clear Z A L hv Y N;have e8:(48:Int)+(d:Int)-48=(d:Int):=by omega
    have ap:Hid (∀ B,Calls Tryz.prog 151 #[.int .u64 10] B (ef B 10)):=fun B=>fM B 10 dT;have bi:Hid (∀ B,Calls Tryz.prog 151 #[.int .u64 (d:Int)] B (ef B d)):=fun B=>fM B d dT;have bn:2^32≤2^(32*(2*K)):=ak dT dT;have C:Hid (10<2^(32*(2*K))∧d<2^(32*(2*K+1))∧X*10<2^(32*(2*K+1))):=by
     refine⟨by omega,ad (show d<2^32 by omega) (ak dT dT),?_⟩;rw[ax,ah];exact dj HC.out dT
    have I:Hid (2*K+1≤1000):=by show 2*K+1≤1000;omega
    clear bn;go_wp2_with fail;refine dS (ap.out _) ?_;rintro e B ⟨v1,rfl,g1,O⟩;have J:Hid _:=q1b B u9 v1 X 10 (2*K) (by have:=I.out;omega) (HN.out.G g1) O HC.out C.out.1;clear O;go_wp2_with fail;refine dS J.out ?_;rintro e w2 ⟨v2,rfl,g2,R⟩;have an:Hid (Num w2 v2 (X*10)):=R;clear J R;go_wp2_with fail;refine dS (bi.out _) ?_;rintro e w3 ⟨v3,rfl,g3,S⟩;have J:Hid _:=q15 w3 v2 v3 (X*10) d (2*K+1) (by have:=I.out;omega) (an.out.G g3) S C.out.2.2 C.out.2.1;clear S;go_wp2_with fail;refine dS J.out ?_;rintro e F ⟨v4,rfl,g4,U⟩;have HS:=hi9 (HR.out v4 F U (aa (aa (aa (aa hG g1) g2) g3) g4));clear U J;go_wp2_with fail
    go_roundw
    case rel=>exact HS.out
    case measure=>have:=am.out;simp [intOf];omega
end Go.Proofs.YtfnkkkcojnffdaaGreatDoor
