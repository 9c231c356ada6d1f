/- What is proved here: contracts of the reference: powers of two as ratios, over this seat's translation.
What is proved here: contracts of the reference's ratios: den of any Rat, laid or new, over this seat's translation.
What is proved here: what holds between the operations of a region that makes new Ints and writes them, in whatever order it draws, over this seat's translation.
What is proved here: contracts of the reference's ratios: Add of Rat, of laid ones and of new ones, and Sub, over this seat's translation.
What is proved here: contracts of the reference's ratios: Mul of Rat, of laid ones and of new ones, over this seat's translation.
What is proved here: contracts of the reference's ratios: Cmp of Rat, of laid ones and of new ones, over this seat's translation.
What is proved here: contracts of the reference's big numbers: 'copy' of words, low, of, SetBit of an Int that isn't below 0, over this seat's translation.
What is proved here: contracts of the reference's big numbers: Quo, Sqrt of Int, over this seat's translation. -/
import Derived.Test.YtohcneeihdkfgaaGreatDoorQ1
import Derived.Test.YtohcneeihdkfgaaGreatDoorQ3
import Derived.Test.YtohcneeihdkfgaaGreatDoorQ8
import Derived.Test.YtohcneeihdkfgaaGreatDoorQ33
import Derived.Test.YtohcneeihdkfgaaGreatDoorQ6
import Derived.Test.YtohcneeihdkfgaaGreatDoorQ10
import Derived.Test.YtohcneeihdkfgaaGreatDoorQ30
import Derived.Laws.IdiomCopy
namespace Go.Proofs.YtohcneeihdkfgaaGreatDoor
open Go.ChangeShapes Go.WideShapes Go.ChangeAt Go.RowKit
open BN
/-- A call hands back a new Rat; nothing that was there has turned. -/
def RetR (w:World) (sa:Int) (A:Nat) (e:Ending) (w':World):Prop:=∃ p,e= .returned (.pointer (some ⟨p,0,none⟩))∧G w w'∧w.heap.size≤p∧p<w'.heap.size∧RatIs w' p sa (A:Int)
theorem NormTo.ret {w0 w:World} {b:Nat} {sa:Int} {A:Nat} {e:Ending} {w':World} (g:G w0 w) (hb:w0.heap.size≤b) (B:b<w.heap.size) (h:NormTo w b sa A e w'):RetR w0 sa A e w':=
 ⟨b,h.1,GX.fresh g h.2.1 hb,hb,aj B h.2.1.size,h.2.2⟩
theorem q4S (w:World) (k K:Nat) (hk:k≤6000) (hK:K≤300) (s:k<32*K):Calls Tryz.prog 212 #[.int .i64 (k:Int)] w (RetR w (2^k:Nat) 1):=by
 have ag:(k:Int)≤6000:=by omega
 have j:Hid (2^k<2^(32*K)):=bk eX s;have N:Hid (1≤K∧1<2^(32*K)):=⟨by omega,eg eX⟩;go_enter Tryz.func212,Tryz.ntmps212;go_wp2_with fail;have W:=ei (ad w) 43;have U:=(ad w).alloc (.cells #[.bool false,.slice none 0 0] 43);generalize w.heap.size=i at *;generalize w.alloc (.cells #[.bool false,.slice none 0 0] 43)=wa at *;refine eW (gW wa 1 eX) ?_;intro e w1 h;obtain⟨p1,rfl,J,y,X,Y⟩:=h;have S:=ab U J;have A:=W.G J;have HL:=hi9 (iS w1 i 0 p1 0 k 0 1 K eX eX N.out.2 A.2.1 X A.2.2 Y);have O:Hid (NI w w1 i 0):=A;clear W U J y X Y A;go_wp2_with fail;refine eW HL.out ?_;intro e B c;obtain⟨rfl,C,E,-,-⟩:=bj S O.out c;rw[show (1:Int)*2^k=((2^k:Nat):Int) from by push_cast;rw[dV]] at E;have R:Hid (NI w B i ((2^k:Nat):Int)):=E;clear c E HL O S;go_wp2_with fail;have Z:=iY B 45;have M:=(ad B).alloc (.cells #[.bool false,.slice none 0 0,.bool false,.slice none 0 0] 45);have I:=R.out.G M;have o:=ab C M;have d:B.heap.size<(B.alloc (.cells #[.bool false,.slice none 0 0,.bool false,.slice none 0 0] 45)).heap.size:=by simp
 have af:w.heap.size≤B.heap.size:=C.size;generalize B.heap.size=pz at *;generalize B.alloc (.cells #[.bool false,.slice none 0 0,.bool false,.slice none 0 0] 45)=w3 at *;have HS:Hid _:=q3I w3 pz i 0 0 0 ((2^k:Nat):Int) K eX N.out.1 (by rw[aA];exact j.out) d I.2.1 Z I.2.2;clear Z M I R C;refine eW HS.out ?_;intro e w4 c;obtain⟨p,rfl,k1,k2,k3,k4⟩:=NormTo.ret o af d c;have m:Hid (RatIs w4 p ((2^k:Nat):Int) ((1:Nat):Int)):=k4;clear c k4 HS;go_wp2_with fail;go_ret;exact⟨p,rfl,k1,k2,k3,m.out⟩
theorem q1N (w:World) (k K:Nat) (bl:0<k) (hk:k≤6000) (hK:K≤300) (an:k<32*K):Calls Tryz.prog 212 #[.int .i64 (-(k:Int))] w (RetR w 1 (2^k)):=by
 have bm:(k:Int)≤6000:=by omega
 have bn:(1:Int)≤k:=by omega
 have ai:Hid (2^k<2^(32*K)):=bk eX an;have W:Hid (1≤K∧1<2^(32*K)):=⟨by omega,eg eX⟩;have U:Hid (Int.tdiv 1 (Nat.gcd (1:Int).natAbs (2^k):Nat)=1∧2^k/Nat.gcd (1:Int).natAbs (2^k)=2^k):=by
  have:Nat.gcd (1:Int).natAbs (2^k)=1:=Nat.gcd_one_left _;rw[this];exact⟨rfl,dU _⟩
 go_enter Tryz.func212,Tryz.ntmps212;go_wp2_with fail;have o:=ei (ad w) 43;have j:=(ad w).alloc (.cells #[.bool false,.slice none 0 0] 43);generalize w.heap.size=pn at *;generalize w.alloc (.cells #[.bool false,.slice none 0 0] 43)=wa at *;refine eW (gW wa 1 eX) ?_;intro e w1 h;obtain⟨p1,rfl,O,ap,s,y⟩:=h;have d:=ab j O;have B:=o.G O;have HL:=hi9 (iS w1 pn 0 p1 0 k 0 1 K eX eX W.out.2 B.2.1 s B.2.2 y);have X:Hid (NI w w1 pn 0):=B;clear o j O ap s y B;go_wp2_with fail;refine eW HL.out ?_;intro e I hs;obtain⟨rfl,J,M,-,-⟩:=bj d X.out hs;rw[show (1:Int)*2^k=((2^k:Nat):Int) from by push_cast;rw[dV]] at M;have Y:Hid (NI w I pn ((2^k:Nat):Int)):=M;clear hs M HL X d;go_wp2_with fail;have af:=iY I 45;have R:=(ad I).alloc (.cells #[.bool false,.slice none 0 0,.bool false,.slice none 0 0] 45);have m:=Y.out.G R;have i:=ab J R;have S:I.heap.size<(I.alloc (.cells #[.bool false,.slice none 0 0,.bool false,.slice none 0 0] 45)).heap.size:=by simp
 have bi:w.heap.size≤I.heap.size:=J.size;generalize I.heap.size=pz at *;generalize I.alloc (.cells #[.bool false,.slice none 0 0,.bool false,.slice none 0 0] 45)=w3 at *;have c:Hid (RatIs w3 pz 0 0):=af;have Z:Hid (NI w w3 pn ((2^k:Nat):Int)):=m;clear af R m Y J;refine eW (gW w3 1 eX) ?_;intro e w4 h;obtain⟨p4,rfl,A,-,C,E⟩:=h;have am:=ab i A;have N:=Z.out.G A;have HS:=hi9 (gM w4 pz p4 0 pn 0 0 0 1 (2^k) K eX W.out.2 ai.out (ae k) (de A S) C N.2.1 (c.out.G S A) E N.2.2);rw[U.out.1,U.out.2] at HS;have ag:=de A S;clear A C E N Z c i;go_wp2_with fail;refine eW HS.out ?_;intro e w5 hs;obtain⟨p,rfl,k1,k2,k3,k4⟩:=NormTo.ret am bi ag hs;have al:Hid (RatIs w5 p 1 ((2^k:Nat):Int)):=k4;clear hs k4 HS;go_wp2_with fail;go_ret;exact⟨p,rfl,k1,k2,k3,al.out⟩
/-- den: of a new Rat it is a new 1. -/
theorem q5P (w:World) (b:Nat) (J:Nat) (I:J=1) (h:RatIs w b 0 0):
  Calls Tryz.prog 73 #[.pointer (some ⟨b,0,none⟩)] w (RetI w (J:Int)):=by
 obtain⟨-,n,v,a,⟨c1,O,-,-⟩,⟨l,K,A,C⟩,h1,-⟩:=h;have S:=gp h1;obtain⟨p,c,rfl,-,-⟩:=fF K;have B:l.length=0:=by
  have R:val l=0:=by rw[C];omega
  rw[(ie A).1 R];rfl
 rw[B] at O;have E:Hid _:=gW w (J:Int) ⟨by omega,by omega⟩;rw[I] at E ⊢;clear K A C h1 S B;go_enter Tryz.func73,Tryz.ntmps73;go_wp2_with fail;refine Calls.mono (P:=Tryz.prog) E.out ?_;rintro e Y ⟨p,rfl,U,W,X,M⟩;have N:=hi9 M;clear M E;go_wp2_with fail;go_ret;exact⟨p,rfl,U,W,X,N.out⟩
/-- A Rat, laid or new (then it is 0). -/
def RatV (w:World) (b:Nat) (A:Int) (B:Nat):Prop:=RatIs w b A (B:Int)∨(A=0∧B=1∧RatIs w b 0 0)
theorem RatV.G {w w':World} {b:Nat} {A:Int} {B:Nat} (h:RatV w b A B) (hb:b<w.heap.size) (g:G w w'):RatV w' b A B:=by
 rcases h with h|⟨h1,h2,h⟩
 ·exact Or.inl (RatIs.G h hb g)
 ·exact Or.inr ⟨h1,h2,RatIs.G h hb g⟩
theorem RatV.num {w:World} {b:Nat} {A:Int} {B:Nat} (h:RatV w b A B):IntIs w b 0 A:=by
 rcases h with h|⟨h1,-,h⟩
 ·exact h.1
 ·rw[h1];exact h.1
/-- A lower part: in the Rat itself, or new. -/
def DI (w0 w:World) (p o:Nat) (s:Int):Prop:=(p<w0.heap.size∧IntIs w0 p o s)∨(o=0∧NI w0 w p s)
theorem DI.G {w0 w w':World} {p o:Nat} {s:Int} (h:DI w0 w p o s) (g:Go.Proofs.YtohcneeihdkfgaaGreatDoor.G w w'):DI w0 w' p o s:=by
 rcases h with h|⟨h1,h2⟩
 ·exact Or.inl h
 ·exact Or.inr ⟨h1,h2.G g⟩
theorem DI.is {w0 w:World} {p o:Nat} {s:Int} (h:DI w0 w p o s) (g:Go.Proofs.YtohcneeihdkfgaaGreatDoor.G w0 w):p<w.heap.size∧IntIs w p o s:=by
 rcases h with ⟨h1,h2⟩|⟨rfl,h2⟩
 ·exact⟨de g h1,df h2 h1 g⟩
 ·exact h2.2
theorem DI.keep {w0 w w':World} {p o:Nat} {s:Int} (h:DI w0 w p o s) (k:NI w0 w p s→NI w0 w' p s):DI w0 w' p o s:=by
 rcases h with h|⟨h1,h2⟩
 ·exact Or.inl h
 ·exact Or.inr ⟨h1,k h2⟩
theorem jd (w0 w:World) (g:G w0 w) (b:Nat) (C:Int) (A:Nat) (E:0<A) (hb:b<w0.heap.size) (h:RatV w0 b C A):
  Calls Tryz.prog 73 #[.pointer (some ⟨b,0,none⟩)] w fun e w'=>∃ p o,e= .returned (.pointer (some ⟨p,o,none⟩))∧G w w'∧DI w0 w' p o (A:Int)∧(p<w0.heap.size∨w.heap.size≤p):=by
 rcases h with h|⟨-,h2,h⟩
 ·refine Calls.mono (P:=Tryz.prog) (lx w b C A eX (h.G hb g)) ?_;rintro e w' ⟨rfl,g'⟩;exact⟨b,2,rfl,g',Or.inl ⟨hb,h.2⟩,Or.inl hb⟩
 ·refine Calls.mono (P:=Tryz.prog) (q5P w b A h2 (h.G hb g)) ?_;rintro e w' ⟨p,rfl,g',B,I,J⟩;exact⟨p,0,rfl,g',Or.inr ⟨rfl,bt g.size B,I,J⟩,Or.inr B⟩
/-- New Ints (ws: the operation that makes one, the one that writes it; V: what it is then), lower parts (ds, D), given values (fs, F), copies (ss: of which operation's value). -/
structure NV (ws:List (Nat×Nat)) (V:Nat→Int) (ds:List Nat) (D:Nat→Int) (fs:List Nat) (F:Nat→Value) (ss:List (Nat×Nat)) (w0:World) (L:Nat→Bool) (f:Nat→Value) (w:World):Prop where
 g:G w0 w
 int:∀ j k,(j,k)∈ws→L j=true→∃ p,f j= .pointer (some ⟨p,0,none⟩)∧NI w0 w p (if L k=true then V j else 0)
 den:∀ j,j∈ds→L j=true→∃ p o,f j= .pointer (some ⟨p,o,none⟩)∧DI w0 w p o (D j)
 fx:∀ j,j∈fs→L j=true→f j=F j
 sm:∀ j i,(j,i)∈ss→L j=true→L i=true∧f j=f i
 ord:∀ j k,(j,k)∈ws→L k=true→L j=true
 apart:∀ i j k p o q r,i≠j→(i,k)∈ws→(j∈ds∨∃ k,(j,k)∈ws)→L i=true→L j=true→f i= .pointer (some ⟨p,o,none⟩)→f j= .pointer (some ⟨q,r,none⟩)→p≠q
section
variable {ws:List (Nat×Nat)} {V:Nat→Int} {ds:List Nat} {D:Nat→Int} {fs:List Nat} {F:Nat→Value} {ss:List (Nat×Nat)} {w0 w w':World} {L:Nat→Bool} {f:Nat→Value}
theorem NV.first (g:G w0 w):NV ws V ds D fs F ss w0 (fun _=>false) f w:=
 ⟨g,(fun _ _ _ h=>by cases h),(fun _ _ h=>by cases h),(fun _ _ h=>by cases h),(fun _ _ _ h=>by cases h),(fun _ _ _ h=>by cases h),(fun _ _ _ _ _ _ _ _ _ _ h=>by cases h)⟩
theorem kQ {p o q r:Nat} (h:Value.pointer (some ⟨p,o,none⟩)= .pointer (some ⟨q,r,none⟩)):p=q:=by injection h with h;injection h with h;injection h
theorem NV.lt (h:NV ws V ds D fs F ss w0 L f w) {j q r:Nat} (B:j∈ds∨∃ k,(j,k)∈ws) (E:L j=true) (e:f j= .pointer (some ⟨q,r,none⟩)):q<w.heap.size:=by
 rcases B with B|⟨k,B⟩
 ·obtain⟨p,o,A,C⟩:=h.den j B E;rw[e] at A;rw[kQ A];exact(C.is h.g).1
 ·obtain⟨p,A,C⟩:=h.int j k B E;rw[e] at A;rw[kQ A];exact C.2.1
theorem NV.step (h:NV ws V ds D fs F ss w0 L f w) (i:Nat) (v:Value) (R:L i=false) (g:G w w') (c:∀ q∈ws,q.2≠i)
  (h1:∀ k,(i,k)∈ws→∃ p,v= .pointer (some ⟨p,0,none⟩)∧NI w0 w' p 0∧w.heap.size≤p)
  (h2:i∈ds→∃ p o,v= .pointer (some ⟨p,o,none⟩)∧DI w0 w' p o (D i)∧(p<w0.heap.size∨w.heap.size≤p))
  (h3:i∈fs→v=F i) (m:∀ k,(i,k)∈ss→L k=true∧v=f k):NV ws V ds D fs F ss w0 (fun j=>if j=i then true else L j) (fun j=>if j=i then v else f j) w' where
 g:=ab h.g g
 int:=fun j k A C=>by
  have E:k≠i:=c _ A;rw[if_neg E];by_cases e:j=i
  ·subst e;rw[if_pos rfl];have J:L k=false:=by
    cases J:L k with
    |false=>rfl
    |true=>rw[h.ord _ _ A J] at R;cases R
   obtain⟨p,e,B,-⟩:=h1 k A;exact⟨p,e,by rw[J];exact B⟩
  ·rw[if_neg e] at C ⊢;obtain⟨p,e,B⟩:=h.int j k A C;exact⟨p,e,B.G g⟩
 den:=fun j A C=>by
  by_cases e:j=i
  ·subst e;rw[if_pos rfl];obtain⟨p,o,e,B,-⟩:=h2 A;exact⟨p,o,e,B⟩
  ·rw[if_neg e] at C ⊢;obtain⟨p,o,e,B⟩:=h.den j A C;exact⟨p,o,e,B.G g⟩
 fx:=fun j A C=>by
  by_cases e:j=i
  ·subst e;rw[if_pos rfl];exact h3 A
  ·rw[if_neg e] at C ⊢;exact h.fx j A C
 sm:=fun j k A C=>by
  by_cases e:j=i
  ·subst e;obtain⟨B,U⟩:=m k A;have E:k≠j:=fun e=>by rw[e,R] at B;cases B
   rw[if_pos rfl,if_neg E,if_neg E];exact⟨B,U⟩
  ·rw[if_neg e] at C ⊢;obtain⟨B,U⟩:=h.sm j k A C;have E:k≠i:=fun e=>by rw[e,R] at B;cases B
   rw[if_neg E,if_neg E];exact⟨B,U⟩
 ord:=fun j k A C=>by
  have E:k≠i:=c _ A;rw[if_neg E] at C;by_cases e:j=i
  ·rw[if_pos e]
  ·rw[if_neg e];exact h.ord j k A C
 apart:=fun a b k p o q r O S hb W X K I=>by
  by_cases Y:a=i
  ·subst Y;rw[if_pos rfl] at K;rw[if_neg (bZ O)] at X I;obtain⟨p2,M,-,U⟩:=h1 k S;rw[K] at M;have:=kQ M;have:=h.lt hb X I;omega
  ·rw[if_neg Y] at W K;by_cases M:b=i
   ·subst M;rw[if_pos rfl] at I;have hp:=h.lt (Or.inr ⟨k,S⟩) W K;obtain⟨p2,Z,s⟩:=h.int a k S W;rw[K] at Z;have e4:=kQ Z;have e5:=s.1;rcases hb with hb|⟨y,hb⟩
    ·obtain⟨p5,o5,N,-,d⟩:=h2 hb;rw[I] at N;have:=kQ N;omega
    ·obtain⟨p5,N,-,d⟩:=h1 y hb;rw[I] at N;have:=kQ N;omega
   ·rw[if_neg M] at X I;exact h.apart a b k p o q r O S hb W X K I
theorem NV.raw (h:NV ws V ds D fs F ss w0 L f w) {j k:Nat} (B:(j,k)∈ws) (l:L j=true) (C:L k=false):∃ p,f j= .pointer (some ⟨p,0,none⟩)∧NI w0 w p 0:=by
 obtain⟨p,e,A⟩:=h.int j k B l;rw[C] at A;exact⟨p,e,A⟩
theorem NV.made (h:NV ws V ds D fs F ss w0 L f w) {j k:Nat} (A:(j,k)∈ws) (C:L k=true) {x:Int} (E:V j=x):∃ p,f j= .pointer (some ⟨p,0,none⟩)∧NI w0 w p x:=by
 obtain⟨p,e,B⟩:=h.int j k A (h.ord j k A C);rw[C,E] at B;exact⟨p,e,B⟩
theorem NV.low (h:NV ws V ds D fs F ss w0 L f w) {j:Nat} (B:j∈ds) (l:L j=true) {x:Int} (C:D j=x):∃ p o,f j= .pointer (some ⟨p,o,none⟩)∧p<w.heap.size∧IntIs w p o x:=by
 obtain⟨p,o,e,A⟩:=h.den j B l;rw[C] at A;exact⟨p,o,e,A.is h.g⟩
theorem NV.fix (h:NV ws V ds D fs F ss w0 L f w) (i:Nat) (c:(∀ q∈ws,q.1≠i∧q.2≠i)∧i∉ds∧∀ q∈ss,q.1≠i) (B:L i=false):NV ws V ds D fs F ss w0 (fun j=>if j=i then true else L j) (fun j=>if j=i then F i else f j) w:=
 h.step i _ B (ad _) (fun q C=>(c.1 q C).2) (fun _ A=>absurd rfl (c.1 _ A).1) (fun A=>absurd A c.2.1) (fun _=>rfl) (fun _ A=>absurd rfl (c.2.2 _ A))
theorem NV.fixg (h:NV ws V ds D fs F ss w0 L f w) (i:Nat) (c:(∀ q∈ws,q.1≠i∧q.2≠i)∧i∉ds∧∀ q∈ss,q.1≠i) (B:L i=false) (g:G w w'):NV ws V ds D fs F ss w0 (fun j=>if j=i then true else L j) (fun j=>if j=i then F i else f j) w':=
 h.step i _ B g (fun q C=>(c.1 q C).2) (fun _ A=>absurd rfl (c.1 _ A).1) (fun A=>absurd A c.2.1) (fun _=>rfl) (fun _ A=>absurd rfl (c.2.2 _ A))
theorem NV.nw (h:NV ws V ds D fs F ss w0 L f w) (i:Nat) (t:TypeId) (c:(∀ q∈ws,q.2≠i)∧i∉ds∧i∉fs∧∀ q∈ss,q.1≠i) (B:L i=false):
  NV ws V ds D fs F ss w0 (fun j=>if j=i then true else L j) (fun j=>if j=i then .pointer (some ⟨w.heap.size,0,none⟩) else f j) (w.alloc (.cells #[.bool false,.slice none 0 0] t)):=
 h.step i _ B ((ad _).alloc _) c.1 (fun _ _=>⟨_,rfl,ei h.g t,aI _⟩) (fun A=>absurd A c.2.1) (fun A=>absurd A c.2.2.1) (fun _ A=>absurd rfl (c.2.2.2 _ A))
theorem NV.dn (h:NV ws V ds D fs F ss w0 L f w) (i:Nat) {p o:Nat} (c:(∀ q∈ws,q.1≠i∧q.2≠i)∧i∉fs∧∀ q∈ss,q.1≠i) (B:L i=false) (g:G w w') (E:DI w0 w' p o (D i)) (I:p<w0.heap.size∨w.heap.size≤p):
  NV ws V ds D fs F ss w0 (fun j=>if j=i then true else L j) (fun j=>if j=i then .pointer (some ⟨p,o,none⟩) else f j) w':=
 h.step i _ B g (fun q C=>(c.1 q C).2) (fun _ A=>absurd rfl (c.1 _ A).1) (fun _=>⟨p,o,rfl,E,I⟩) (fun A=>absurd A c.2.1) (fun _ A=>absurd rfl (c.2.2 _ A))
theorem NV.cp (h:NV ws V ds D fs F ss w0 L f w) (i k:Nat) (c:(∀ q∈ws,q.1≠i∧q.2≠i)∧i∉ds∧i∉fs∧∀ q∈ss,q.1=i→q.2=k) (B:L i=false) (A:L k=true):NV ws V ds D fs F ss w0 (fun j=>if j=i then true else L j) (fun j=>if j=i then f k else f j) w:=
 h.step i _ B (ad _) (fun q E=>(c.1 q E).2) (fun _ A=>absurd rfl (c.1 _ A).1) (fun A=>absurd A c.2.1) (fun A=>absurd A c.2.2.1) (fun m C=>by have e:m=k:=c.2.2.2 _ C rfl;rw[e];exact⟨A,rfl⟩)
/-- Operation k writes the Int of operation i. -/
theorem NV.wr (h:NV ws V ds D fs F ss w0 L f w) (k i:Nat) {p:Nat} {e:Ending} (c:(i,k)∈ws∧(∀ q∈ws,q.1≠k∧(q.2=k↔q.1=i))∧k∉ds∧i∉ds∧k∉fs∧∀ q∈ss,q.1=k→q.2=i) (Y:L k=false) (hi:L i=true) (M:f i= .pointer (some ⟨p,0,none⟩)) (s:Step w0 w p (V i) e w'):
  NV ws V ds D fs F ss w0 (fun j=>if j=k then true else L j) (fun j=>if j=k then .pointer (some ⟨p,0,none⟩) else f j) w' where
 g:=s.2.1
 int:=fun j m A B=>by
  have C:j≠k:=(c.2.1 _ A).1;rw[if_neg C] at B ⊢;by_cases I:j=i
  ·subst I;have J:m=k:=(c.2.1 _ A).2.2 rfl;rw[if_pos J,if_pos rfl];exact⟨p,M,s.2.2.1⟩
  ·have hm:m≠k:=fun J=>I ((c.2.1 _ A).2.1 J);rw[if_neg hm];obtain⟨q,K,U⟩:=h.int j m A B;exact⟨q,K,s.2.2.2.2 q _ (bZ (h.apart i j k p 0 q 0 (bZ I) c.1 (Or.inr ⟨m,A⟩) hi B M K)) U⟩
 den:=fun j A B=>by
  have C:j≠k:=fun e=>c.2.2.1 (e▸A);rw[if_neg C] at B ⊢;obtain⟨q,o,K,U⟩:=h.den j A B;refine⟨q,o,K,U.keep fun k4=> ?_⟩;have I:j≠i:=fun e=>c.2.2.2.1 (e▸A);exact s.2.2.2.2 q _ (bZ (h.apart i j k p 0 q o (bZ I) c.1 (Or.inl A) hi B M K)) k4
 fx:=fun j A B=>by
  have C:j≠k:=fun e=>c.2.2.2.2.1 (e▸A);rw[if_neg C] at B ⊢;exact h.fx j A B
 sm:=fun j m A B=>by
  by_cases I:j=k
  ·subst I;have J:m=i:=c.2.2.2.2.2 _ A rfl;subst J;have E:m≠j:=fun e=>by rw[e,Y] at hi;cases hi
   rw[if_neg E,if_pos rfl,if_neg E];exact⟨hi,M.symm⟩
  ·rw[if_neg I] at B ⊢;obtain⟨S,k2⟩:=h.sm j m A B;have E:m≠k:=fun e=>by rw[e,Y] at S;cases S
   rw[if_neg E,if_neg E];exact⟨S,k2⟩
 ord:=fun j m A B=>by
  have C:j≠k:=(c.2.1 _ A).1;rw[if_neg C];by_cases J:m=k
  ·rw[show j=i from(c.2.1 _ A).2.1 J];exact hi
  ·rw[if_neg J] at B;exact h.ord j m A B
 apart:=fun a b m p2 o q r N Z hb d y W X=>by
  have O:a≠k:=(c.2.1 _ Z).1;have R:b≠k:=by
   rcases hb with hb|⟨m2,hb⟩
   ·exact fun e=>c.2.2.1 (e▸hb)
   ·exact(c.2.1 _ hb).1
  rw[if_neg O] at d W;rw[if_neg R] at y X;exact h.apart a b m p2 o q r N Z hb d y W X
end
end Go.Proofs.YtohcneeihdkfgaaGreatDoor
namespace Go.Proofs.YtohcneeihdkfgaaGreatDoor
open Go.ChangeShapes Go.WideShapes Go.ChangeAt Go.RowKit
open BN
set_option maxRecDepth 20000 in
set_option maxHeartbeats 4000000 in
theorem qv (FR FI:Nat) (hF:(FR=15∧FI=71)∨(FR=17∧FI=75)) (S:Int) (w:World) (bz bx c:Nat) (s1 s2 m s:Int) (M N:Nat) (J:Nat) (C:J≤100000) (cd:m.natAbs<2^(32*J)) (ci:s.natAbs<2^(32*J)) (Y:M<2^(32*J)) (Z:N<2^(32*J)) (ce:0<M) (cl:0<N)
  (fb:bz<w.heap.size) (al:bx<w.heap.size) (am:c<w.heap.size) (hz:RatIs w bz s1 s2) (hx:RatV w bx m M) (hy:RatV w c s N) (fa:S.natAbs<2^(32*(2*J+1)))
  (B:∀ (W:World) (p q r:Nat),G w W→NI w W p 0→NI w W q (m*(N:Int))→NI w W r (s*(M:Int))→Calls Tryz.prog FI #[.pointer (some ⟨p,0,none⟩),.pointer (some ⟨q,0,none⟩),.pointer (some ⟨r,0,none⟩)] W (SetTo W p 0 S)):
  Calls Tryz.prog FR #[.pointer (some ⟨bz,0,none⟩),.pointer (some ⟨bx,0,none⟩),.pointer (some ⟨c,0,none⟩)] w (NormTo w bz (Int.tdiv S (Nat.gcd S.natAbs (M*N):Nat)) (M*N/Nat.gcd S.natAbs (M*N))):=by
 have cs:Hid (m.natAbs<2^(32*J)):=cd;have cz:Hid (s.natAbs<2^(32*J)):=ci;have ap:Hid ((M:Int).natAbs<2^(32*J)):=by show (M:Int).natAbs<2^(32*J);rw[aA];exact Y
 have bi:Hid ((N:Int).natAbs<2^(32*J)):=by show (N:Int).natAbs<2^(32*J);rw[aA];exact Z
 have hd:Hid (IntIs w bx 0 m):=hx.num;have he:Hid (IntIs w c 0 s):=hy.num;have em:Hid (RatV w bx m M):=hx;have ep:Hid (RatV w c s N):=hy;have hf:Hid (RatIs w bz s1 s2):=hz;have bl:0<M:=ce;have bm:0<N:=cl;have ai:32*(2*J)=32*J+32*J:=by omega
 have fr:(m*(N:Int)).natAbs<2^(32*(2*J)):=by
  rw[cn,aA,ai,ah];exact bC cd Z
 have fs:(s*(M:Int)).natAbs<2^(32*(2*J)):=by
  rw[cn,aA,ai,ah];exact bC ci Y
 have hh:M*N<2^(32*(2*J)):=by
  rw[ai,ah];exact bC Y Z
 have hj:2^(32*(2*J))*2≤2^(32*(2*J+1)):=by rw[← bH];exact ao eX eX
 have hk:Hid ((m*(N:Int)).natAbs<2^(32*(2*J))):=fr;have hm:Hid ((s*(M:Int)).natAbs<2^(32*(2*J))):=fs;have ha:Hid (S.natAbs<2^(32*(2*J+1))):=fa;have HI:Hid (∀ (W:World) (p q r:Nat),_):=B;have gg:Hid (M*N<2^(32*(2*J+1))):=by show M*N<2^(32*(2*J+1));omega
 have gd:Hid (0<M*N):=aM ce cl;clear hx hy hz cd ci Y Z ce cl ai fr fs hh hj fa B;rcases hF with ⟨rfl,rfl⟩|⟨rfl,rfl⟩
 all_goals
  first|go_enter Tryz.func15,Tryz.ntmps15|go_enter Tryz.func17,Tryz.ntmps17
  go_wp2_with fail;refine RV.region_inv 17 0 #[true,true,true,true,true,true,true,true,true,true,true,true,true,true,true,true,true] [some 8,some 9,some 10,some 11,some 12,some 13,some 14,some 15,some 16,some 17,some 18,some 19,some 20,some 21,some 22,some 23,some 7]
   (NV [(0,15),(1,7),(8,14)] (fun j=>match j with|0=>S|1=>m*(N:Int)|_=>s*(M:Int)) [6,13] (fun j=>match j with|6=>(N:Int)|_=>(M:Int)) [2,3,4,5,9,10,11,12] (fun j=>match j with|2=> .pointer (some ⟨bx,0,none⟩)|3=> .pointer (some ⟨bx,0,none⟩)|4=> .pointer (some ⟨bx,0,none⟩)|12=> .pointer (some ⟨bx,0,none⟩)|_=> .pointer (some ⟨c,0,none⟩)) [(7,1),(14,8),(15,0),(16,15)] w) eZ eZ rfl eZ eZ (fun f=>NV.first (ad _).drew) ?_
  intro A O;simp only[List.range,List.range.loop,du,eH,fG,Act.put,aq,ay,az] at O;refine⟨aC rfl ?_ (aC rfl ?_ (aC rfl ?_ (aC rfl ?_ (aC rfl ?_ (aC rfl ?_ (aC rfl ?_ (aC rfl ?_ (aC rfl ?_ (aC rfl ?_ (aC rfl ?_ (aC rfl ?_ (aC rfl ?_ (aC rfl ?_ (aC rfl ?_ (aC rfl ?_ (aC rfl ?_ RV.Ones.nil)))))))))))))))),?_⟩
  ·intro L f W B I E K C;rw[O f] at C ⊢;go_simp;exact C.out _ _ ⟨_,rfl,NV.nw B _ _ fk I⟩
  ·intro L f W B I E K C;rw[O f] at C ⊢;go_simp;exact C.out _ _ ⟨_,rfl,NV.nw B _ _ fk I⟩
  ·intro L f W B I E K C;rw[O f] at C ⊢;go_simp;exact C.out _ _ ⟨_,rfl,NV.fix B _ fk I⟩
  ·intro L f W B I E K C;rw[O f,show f 2= .pointer (some ⟨bx,0,none⟩) from B.fx 2 fk (E 2 eZ)] at C ⊢;go_simp;exact C.out _ _ ⟨_,rfl,NV.fix B _ fk I⟩
  ·intro L f W B I E K C;rw[O f,show f 3= .pointer (some ⟨bx,0,none⟩) from B.fx 3 fk (E 3 eZ)] at C ⊢;go_simp;exact C.out _ _ ⟨_,rfl,NV.fix B _ fk I⟩
  ·intro L f W B I E K C;rw[O f] at C ⊢;go_simp;exact C.out _ _ ⟨_,rfl,NV.fix B _ fk I⟩
  ·intro L f W B I E K C;rw[O f] at C ⊢;have e:f 5= .pointer (some ⟨c,0,none⟩):=B.fx 5 fk (E 5 eZ);rw[e] at C ⊢;clear e E;go_simp;go_wp2_with (go_at_call 73;refine eW (jd w W B.g c s N bm am ep.out) ?_;rintro e w' ⟨p,o,rfl,g,U,k2⟩);exact C.out _ _ ⟨_,rfl,NV.dn B _ fk I g U k2⟩
  ·intro L f W B I E K C;rw[O f] at C ⊢;have l1:=E 1 eZ;obtain⟨p,e1,U⟩:=B.raw (j:=1) (k:=7) fk l1 I;obtain⟨q,o,e6,k6,k7⟩:=B.low (j:=6) fk (E 6 eZ) rfl;have e4:f 4= .pointer (some ⟨bx,0,none⟩):=B.fx 4 fk (E 4 eZ);have bu:=e1;rw[e1,e4,e6] at C ⊢;have hM:=hi9 (jr W p 0 bx 0 q o 0 m N J eX cs.out bi.out U.2.1 (de B.g al) k6 U.2.2 (df hd.out al B.g) k7);clear E e1 e4 e6 k6 k7;go_simp;go_wp2_with (go_at_call 72;refine eW hM.out ?_;intro e w' hx;have X:=bj B.g U hx;obtain rfl:=X.1);exact C.out _ _ ⟨_,rfl,NV.wr B 7 1 fk I l1 bu X⟩
  ·intro L f W B I E K C;rw[O f] at C ⊢;go_simp;exact C.out _ _ ⟨_,rfl,NV.nw B _ _ fk I⟩
  ·intro L f W B I E K C;rw[O f] at C ⊢;go_simp;exact C.out _ _ ⟨_,rfl,NV.fix B _ fk I⟩
  ·intro L f W B I E K C;rw[O f,show f 9= .pointer (some ⟨c,0,none⟩) from B.fx 9 fk (E 9 eZ)] at C ⊢;go_simp;exact C.out _ _ ⟨_,rfl,NV.fix B _ fk I⟩
  ·intro L f W B I E K C;rw[O f,show f 10= .pointer (some ⟨c,0,none⟩) from B.fx 10 fk (E 10 eZ)] at C ⊢;go_simp;exact C.out _ _ ⟨_,rfl,NV.fix B _ fk I⟩
  ·intro L f W B I E K C;rw[O f] at C ⊢;go_simp;exact C.out _ _ ⟨_,rfl,NV.fix B _ fk I⟩
  ·intro L f W B I E K C;rw[O f] at C ⊢;have e:f 12= .pointer (some ⟨bx,0,none⟩):=B.fx 12 fk (E 12 eZ);rw[e] at C ⊢;clear e E;go_simp;go_wp2_with (go_at_call 73;refine eW (jd w W B.g bx m M bl al em.out) ?_;rintro e w' ⟨p,o,rfl,g,U,k2⟩);exact C.out _ _ ⟨_,rfl,NV.dn B _ fk I g U k2⟩
  ·intro L f W B I E K C;rw[O f] at C ⊢;have l1:=E 8 eZ;obtain⟨p,e1,U⟩:=B.raw (j:=8) (k:=14) fk l1 I;obtain⟨q,o,e6,k6,k7⟩:=B.low (j:=13) fk (E 13 eZ) rfl;have e4:f 11= .pointer (some ⟨c,0,none⟩):=B.fx 11 fk (E 11 eZ);have bu:=e1;rw[e1,e4,e6] at C ⊢;have hM:=hi9 (jr W p 0 c 0 q o 0 s M J eX cz.out ap.out U.2.1 (de B.g am) k6 U.2.2 (df he.out am B.g) k7);clear E e1 e4 e6 k6 k7;go_simp;go_wp2_with (go_at_call 72;refine eW hM.out ?_;intro e w' hx;have X:=bj B.g U hx;obtain rfl:=X.1);exact C.out _ _ ⟨_,rfl,NV.wr B 14 8 fk I l1 bu X⟩
  ·intro L f W B I E K C;rw[O f] at C ⊢;have l7:=E 7 eZ;have cr:=E 14 eZ;have l0:=E 0 eZ;obtain⟨p,e0,k0⟩:=B.raw (j:=0) (k:=15) fk l0 I;obtain⟨l1,e7⟩:=B.sm 7 1 fk l7;obtain⟨l8,eu⟩:=B.sm 14 8 fk cr;obtain⟨q,e1,U⟩:=B.made (j:=1) (k:=7) fk l7 rfl;obtain⟨r,e8,k8⟩:=B.made (j:=8) (k:=14) fk cr rfl;have hg:=e0;rw[e0,e7,e1,eu,e8] at C ⊢;have hM:=hi9 (HI.out W p q r B.g k0 U k8);clear E e0 e7 e1 eu e8 U k8 l1 l7 l8 cr;go_simp;go_wp2_with ((first|go_at_call 71|go_at_call 75);refine eW hM.out ?_;intro e w' hx;have X:=bj B.g k0 hx;obtain rfl:=X.1);exact C.out _ _ ⟨_,rfl,NV.wr B 15 0 fk I l0 hg X⟩
  ·intro L f W B I E K C;rw[O f] at C ⊢;have R:=E 15 eZ;obtain⟨l0,y⟩:=B.sm 15 0 fk R;obtain⟨p,e0,k0⟩:=B.made (j:=0) (k:=15) fk R rfl;have ee:f 15= .pointer (some ⟨p,0,none⟩):=y.trans e0;have hc:=NV.cp B 16 15 fk I R;rw[ee] at C hc ⊢;clear E y e0 k0 ee l0 R;go_simp;exact C.out _ _ ⟨_,rfl,hc⟩
  intro f L i B hl;refine wpAny_done eZ ?_ _;rw[O f];obtain⟨R,ez⟩:=B.sm 16 15 fk (hl 16 fk);obtain⟨l0,y⟩:=B.sm 15 0 fk R;obtain⟨p0,e0,k0⟩:=B.made (j:=0) (k:=15) fk R rfl;rw[ez,y,e0];have HS:NI w i p0 S:=k0;have hG:=B.g;clear O ez y e0 k0 l0 R hl B HI;have bq:Hid (NI w i p0 S):=HS;clear HS;go_wp2_with fail;have fp:=ei hG 43;have cb:=(ad i).alloc (.cells #[.bool false,.slice none 0 0] 43);have bv:=ab hG cb;have ga:=bq.out.G cb;have fv:p0≠i.heap.size:=by have:=bq.out.2.1;omega
  generalize i.heap.size=pd at *;generalize i.alloc (.cells #[.bool false,.slice none 0 0] 43)=v1 at *;have dr:Hid (NI w v1 pd 0):=fp;have ea:Hid (NI w v1 p0 S):=ga;clear fp cb ga hG bq;refine eW (jd w v1 bv bx m M bl al em.out) ?_;rintro e v2 ⟨pe,oe,rfl,an,k2,-⟩;have di:Hid (DI w v2 pe oe M):=k2;clear k2;have bw:=ab bv an;have ds:Hid (NI w v2 pd 0):=dr.out.G an;have eb:Hid (NI w v2 p0 S):=ea.out.G an;clear bv an dr ea;go_wp2_with fail;refine eW (jd w v2 bw c s N bm am ep.out) ?_;rintro e v3 ⟨pf,of,rfl,af,k3,-⟩;have dq:Hid (DI w v3 pf of N):=k3;have d:=ab bw af;have ag:Hid (NI w v3 pd 0):=ds.out.G af;have ec:Hid (NI w v3 p0 S):=eb.out.G af;have dl:Hid (DI w v3 pe oe M):=di.out.G af;clear bw af ds eb di k3;have HM:=hi9 (jr v3 pd 0 pe oe pf of 0 M N J eX ap.out bi.out ag.out.2.1 (dl.out.is d).1 (dq.out.is d).1 ag.out.2.2 (dl.out.is d).2 (dq.out.is d).2);go_wp2_with fail;refine eW HM.out ?_;intro e v4 X;obtain⟨rfl,ca,cc,-,fh⟩:=bj d ag.out X;have bs:Hid (NI w v4 p0 S):=fh p0 _ fv ec.out;rw[show (M:Int)*N=((M*N:Nat):Int) from by push_cast;rfl] at cc;have bn:Hid (NI w v4 pd ((M*N:Nat):Int)):=cc;clear X fh cc HM ag ec d fv;have HF:=hi9 (gM v4 bz p0 0 pd 0 s1 s2 S (M*N) (2*J+1) eX ha.out gg.out gd.out (de ca fb) bs.out.2.1 bn.out.2.1 (hf.out.G fb ca) bs.out.2.2 bn.out.2.2);go_wp2_with fail;refine eW HF.out ?_;intro e v5 X;obtain⟨rfl,U,k2⟩:=NormTo.after ca X;have gm:=hi9 k2;clear X k2 HF bs bn;go_wp2_with fail;go_ret;exact⟨rfl,U,gm.out⟩
theorem hup_ (A:Nat):2^(32*(2*A))*2≤2^(32*(2*A+1)):=by rw[← bH];exact ao eX eX
theorem jC {a:Int} {b A:Nat} (h1:a.natAbs<2^(32*A)) (h2:b<2^(32*A)):(a*(b:Int)).natAbs<2^(32*(2*A)):=by
 rw[cn,aA,show 32*(2*A)=32*A+32*A from by omega,ah];exact bC h1 h2
theorem q5I (w:World) (O bx R:Nat) (j k M N:Int) (C E:Nat) (I:Nat) (m:I≤100000) (J:M.natAbs<2^(32*I)) (K:N.natAbs<2^(32*I)) (A:C<2^(32*I)) (B:E<2^(32*I)) (Y:0<C) (Z:0<E)
  (X:O<w.heap.size) (S:bx<w.heap.size) (U:R<w.heap.size) (y:RatIs w O j k) (o:RatV w bx M C) (s:RatV w R N E):
  Calls Tryz.prog 15 #[.pointer (some ⟨O,0,none⟩),.pointer (some ⟨bx,0,none⟩),.pointer (some ⟨R,0,none⟩)] w (NormTo w O (Int.tdiv (M*(E:Int)+N*(C:Int)) (Nat.gcd (M*(E:Int)+N*(C:Int)).natAbs (C*E):Nat)) (C*E/Nat.gcd (M*(E:Int)+N*(C:Int)).natAbs (C*E))):=
 qv _ _ (Or.inl ⟨rfl,rfl⟩) _ w O bx R j k M N C E I m J K A B Y Z X S U y o s (by have:=Int.natAbs_add_le (M*(E:Int)) (N*(C:Int));have:=hup_ I;have:=jC J B;have:=jC K A;omega)
  fun W p q r _ c d i=>rZ W p 0 q 0 r 0 0 _ _ (2*I) eX (jC J B) (jC K A) c.2.1 d.2.1 i.2.1 c.2.2 d.2.2 i.2.2
theorem q6B (w:World) (O bx R:Nat) (j k M N:Int) (C E:Nat) (I:Nat) (m:I≤100000) (J:M.natAbs<2^(32*I)) (K:N.natAbs<2^(32*I)) (A:C<2^(32*I)) (B:E<2^(32*I)) (Y:0<C) (Z:0<E)
  (X:O<w.heap.size) (S:bx<w.heap.size) (U:R<w.heap.size) (y:RatIs w O j k) (o:RatIs w bx M C) (s:RatIs w R N E):
  Calls Tryz.prog 17 #[.pointer (some ⟨O,0,none⟩),.pointer (some ⟨bx,0,none⟩),.pointer (some ⟨R,0,none⟩)] w (NormTo w O (Int.tdiv (M*(E:Int)-N*(C:Int)) (Nat.gcd (M*(E:Int)-N*(C:Int)).natAbs (C*E):Nat)) (C*E/Nat.gcd (M*(E:Int)-N*(C:Int)).natAbs (C*E))):=
 qv _ _ (Or.inr ⟨rfl,rfl⟩) _ w O bx R j k M N C E I m J K A B Y Z X S U y (Or.inl o) (Or.inl s) (by have:=Int.natAbs_sub_le (M*(E:Int)) (N*(C:Int));have:=hup_ I;have:=jC J B;have:=jC K A;omega)
  fun W p q r _ c d i=>q6A W p 0 q 0 r 0 0 _ _ (2*I) eX (jC J B) (jC K A) c.2.1 d.2.1 i.2.1 c.2.2 d.2.2 i.2.2
set_option maxRecDepth 20000 in
set_option maxHeartbeats 4000000 in
theorem q61 (w:World) (m bx X:Nat) (s1 s2 S U:Int) (M N:Nat) (J:Nat) (C:J≤100000) (ag:S.natAbs<2^(32*J)) (al:U.natAbs<2^(32*J)) (Z:M<2^(32*J)) (c:N<2^(32*J)) (ai:0<M) (am:0<N)
  (bq:m<w.heap.size) (y:bx<w.heap.size) (af:X<w.heap.size) (hz:RatIs w m s1 s2) (i:RatV w bx S M) (hy:RatV w X U N):
  Calls Tryz.prog 19 #[.pointer (some ⟨m,0,none⟩),.pointer (some ⟨bx,0,none⟩),.pointer (some ⟨X,0,none⟩)] w (NormTo w m (Int.tdiv (S*U) (Nat.gcd (S*U).natAbs (M*N):Nat)) (M*N/Nat.gcd (S*U).natAbs (M*N))):=by
 have an:Hid (S.natAbs<2^(32*J)):=ag;have ap:Hid (U.natAbs<2^(32*J)):=al;have bi:Hid ((M:Int).natAbs<2^(32*J)):=by show (M:Int).natAbs<2^(32*J);rw[aA];exact Z
 have bl:Hid ((N:Int).natAbs<2^(32*J)):=by show (N:Int).natAbs<2^(32*J);rw[aA];exact c
 have cd:Hid (IntIs w bx 0 S):=i.num;have ci:Hid (IntIs w X 0 U):=hy.num;have ce:Hid (RatV w bx S M):=i;have cl:Hid (RatV w X U N):=hy;have cr:Hid (RatIs w m s1 s2):=hz;have bs:0<M:=ai;have bu:0<N:=am;have cc:Hid ((S*U).natAbs<2^(32*(2*J))):=by
  show (S*U).natAbs<2^(32*(2*J));rw[cn,show 32*(2*J)=32*J+32*J from by omega,ah];exact bC ag al
 have bw:Hid (M*N<2^(32*(2*J))):=by
  show M*N<2^(32*(2*J));rw[show 32*(2*J)=32*J+32*J from by omega,ah];exact bC Z c
 have bv:Hid (0<M*N):=aM ai am;have ca:Hid ((M:Int)*N=((M*N:Nat):Int)):=by show (M:Int)*N=((M*N:Nat):Int);push_cast;rfl
 clear i hy hz ag al Z c ai am;go_enter Tryz.func19,Tryz.ntmps19;go_wp2_with fail;refine RV.region_inv 15 2 #[true,true,true,true,true,true,true,true,true,true,true,true,true,true,true,false,false] [some 7,some 8,some 9,some 10,some 11,some 12,some 13,some 14,some 15,some 16,some 17,some 18,some 19,some 20,some 21]
  (NV [(1,8),(9,14)] (fun j=>match j with|1=>S*U|_=>((M*N:Nat):Int)) [11,13] (fun j=>match j with|11=>(M:Int)|_=>(N:Int)) [0,2,3,4,5,6,7,10,12] (fun j=>match j with|0=> .pointer (some ⟨m,0,none⟩)|2=> .pointer (some ⟨bx,0,none⟩)|3=> .pointer (some ⟨bx,0,none⟩)|4=> .pointer (some ⟨bx,0,none⟩)|10=> .pointer (some ⟨bx,0,none⟩)|_=> .pointer (some ⟨X,0,none⟩)) [(8,1),(14,9)] w) eZ eZ rfl eZ eZ (fun f=>NV.first (ad _).drew) ?_
 intro A O;simp only[List.range,List.range.loop,du,eH,fG,Act.put,aq,ay,az] at O;refine⟨aC rfl ?_ (aC rfl ?_ (aC rfl ?_ (aC rfl ?_ (aC rfl ?_ (aC rfl ?_ (aC rfl ?_ (aC rfl ?_ (aC rfl ?_ (aC rfl ?_ (aC rfl ?_ (aC rfl ?_ (aC rfl ?_ (aC rfl ?_ (aC rfl ?_ RV.Ones.nil)))))))))))))),?_⟩
 ·intro L f W B E I K C;rw[O f] at C ⊢;go_simp;exact C.out _ _ ⟨_,rfl,NV.fix B _ fk E⟩
 ·intro L f W B E I K C;rw[O f] at C ⊢;go_simp;exact C.out _ _ ⟨_,rfl,NV.nw B _ _ fk E⟩
 ·intro L f W B E I K C;rw[O f] at C ⊢;go_simp;exact C.out _ _ ⟨_,rfl,NV.fix B _ fk E⟩
 ·intro L f W B E I K C;rw[O f,show f 2= .pointer (some ⟨bx,0,none⟩) from B.fx 2 fk (I 2 eZ)] at C ⊢;go_simp;exact C.out _ _ ⟨_,rfl,NV.fix B _ fk E⟩
 ·intro L f W B E I K C;rw[O f,show f 3= .pointer (some ⟨bx,0,none⟩) from B.fx 3 fk (I 3 eZ)] at C ⊢;go_simp;exact C.out _ _ ⟨_,rfl,NV.fix B _ fk E⟩
 ·intro L f W B E I K C;rw[O f] at C ⊢;go_simp;exact C.out _ _ ⟨_,rfl,NV.fix B _ fk E⟩
 ·intro L f W B E I K C;rw[O f,show f 5= .pointer (some ⟨X,0,none⟩) from B.fx 5 fk (I 5 eZ)] at C ⊢;go_simp;exact C.out _ _ ⟨_,rfl,NV.fix B _ fk E⟩
 ·intro L f W B E I K C;rw[O f,show f 6= .pointer (some ⟨X,0,none⟩) from B.fx 6 fk (I 6 eZ)] at C ⊢;go_simp;exact C.out _ _ ⟨_,rfl,NV.fix B _ fk E⟩
 ·intro L f W B E I K C;rw[O f] at C ⊢;have l1:=I 1 eZ;obtain⟨p,d,R⟩:=B.raw (j:=1) (k:=8) fk l1 E;have e4:f 4= .pointer (some ⟨bx,0,none⟩):=B.fx 4 fk (I 4 eZ);have e7:f 7= .pointer (some ⟨X,0,none⟩):=B.fx 7 fk (I 7 eZ);have s:=d;rw[d,e4,e7] at C ⊢;have hM:=hi9 (jr W p 0 bx 0 X 0 0 S U J eX an.out ap.out R.2.1 (de B.g y) (de B.g af) R.2.2 (df cd.out y B.g) (df ci.out af B.g));clear I d e4 e7;go_simp;go_wp2_with (go_at_call 72;refine eW hM.out ?_;intro e w' i;have hs:=bj B.g R i;obtain rfl:=hs.1);exact C.out _ _ ⟨_,rfl,NV.wr B 8 1 fk E l1 s hs⟩
 ·intro L f W B E I K C;rw[O f] at C ⊢;go_simp;exact C.out _ _ ⟨_,rfl,NV.nw B _ _ fk E⟩
 ·intro L f W B E I K C;rw[O f] at C ⊢;go_simp;exact C.out _ _ ⟨_,rfl,NV.fix B _ fk E⟩
 ·intro L f W B E I K C;rw[O f,show f 10= .pointer (some ⟨bx,0,none⟩) from B.fx 10 fk (I 10 eZ)] at C ⊢;go_simp;go_wp2_with (go_at_call 73;refine eW (jd w W B.g bx S M bs y ce.out) ?_;rintro e w' ⟨p,o,rfl,g,R,k2⟩);exact C.out _ _ ⟨_,rfl,NV.dn B _ fk E g R k2⟩
 ·intro L f W B E I K C;rw[O f] at C ⊢;go_simp;exact C.out _ _ ⟨_,rfl,NV.fix B _ fk E⟩
 ·intro L f W B E I K C;rw[O f,show f 12= .pointer (some ⟨X,0,none⟩) from B.fx 12 fk (I 12 eZ)] at C ⊢;go_simp;go_wp2_with (go_at_call 73;refine eW (jd w W B.g X U N bu af cl.out) ?_;rintro e w' ⟨p,o,rfl,g,R,k2⟩);exact C.out _ _ ⟨_,rfl,NV.dn B _ fk E g R k2⟩
 ·intro L f W B E I K C;rw[O f] at C ⊢;have l1:=I 9 eZ;obtain⟨p,d,R⟩:=B.raw (j:=9) (k:=14) fk l1 E;obtain⟨q,o,e6,k6,k7⟩:=B.low (j:=11) fk (I 11 eZ) rfl;obtain⟨q2,o2,e8,k8,k9⟩:=B.low (j:=13) fk (I 13 eZ) rfl;have s:=d;rw[d,e6,e8] at C ⊢;have hM:=hi9 (ca.out▸jr W p 0 q o q2 o2 0 M N J eX bi.out bl.out R.2.1 k6 k8 R.2.2 k7 k9);clear I d e6 e8 k6 k7 k8 k9;go_simp;go_wp2_with (go_at_call 72;refine eW hM.out ?_;intro e w' i;have hs:=bj B.g R i;obtain rfl:=hs.1);exact C.out _ _ ⟨_,rfl,NV.wr B 14 9 fk E l1 s hs⟩
 intro f L cs B hl;obtain⟨l1,e8⟩:=B.sm 8 1 fk (hl 8 fk);obtain⟨l9,bn⟩:=B.sm 14 9 fk (hl 14 fk);obtain⟨pn,d,R⟩:=B.made (j:=1) (k:=8) fk (hl 8 fk) rfl;obtain⟨pd,e9,k9⟩:=B.made (j:=9) (k:=14) fk (hl 14 fk) rfl;rw[O f,e8,d,bn,e9,show f 0= .pointer (some ⟨m,0,none⟩) from B.fx 0 fk (hl 0 fk)];have Y:=B.g;have bm:=hi9 (gM cs m pn 0 pd 0 s1 s2 (S*U) (M*N) (2*J) eX cc.out bw.out bv.out (de Y bq) R.2.1 k9.2.1 (cr.out.G bq Y) R.2.2 k9.2.2);clear O e8 d bn e9 R k9 l1 l9 hl B;refine wpAny_ready (rs:=[15]) eZ fX ?_;refine AllReady.cons rfl (fun K C=> ?_) AllReady.nil;go_simp;have HK:=hid C;clear C;go_wp2_with (go_at_call 61;refine eW bm.out ?_;intro e cz i;obtain⟨rfl,R,k2⟩:=NormTo.after Y i);have cb:=hi9 k2;refine HK.out _ _ ?_;clear i k2 HK K bm;refine wpAny_ready (rs:=[16]) eZ fX ?_;refine AllReady.cons rfl (fun K C=> ?_) AllReady.nil;go_simp;refine C _ _ ?_;clear C K;refine wpAny_done eZ ?_ _;go_wp2_with fail;go_ret;exact⟨rfl,R,cb.out⟩
set_option maxRecDepth 20000 in
set_option maxHeartbeats 4000000 in
theorem q5L (w:World) (bx d:Nat) (U X:Int) (E N:Nat) (O:Nat) (C:O≤100000) (bq:U.natAbs<2^(32*O)) (bu:X.natAbs<2^(32*O)) (af:E<2^(32*O)) (ag:N<2^(32*O)) (bs:0<E) (ce:0<N)
  (Z:bx<w.heap.size) (c:d<w.heap.size) (hx:RatV w bx U E) (hy:RatV w d X N):
  Calls Tryz.prog 25 #[.pointer (some ⟨bx,0,none⟩),.pointer (some ⟨d,0,none⟩)] w fun e w'=>e= .returned (.int .i64 (cmpI (U*(N:Int)) (X*(E:Int))))∧G w w':=by
 have bv:Hid (U.natAbs<2^(32*O)):=bq;have bw:Hid (X.natAbs<2^(32*O)):=bu;have bz:Hid ((E:Int).natAbs<2^(32*O)):=by show (E:Int).natAbs<2^(32*O);rw[aA];exact af
 have ca:Hid ((N:Int).natAbs<2^(32*O)):=by show (N:Int).natAbs<2^(32*O);rw[aA];exact ag
 have dr:Hid (IntIs w bx 0 U):=hx.num;have ds:Hid (IntIs w d 0 X):=hy.num;have bl:Hid (RatV w bx U E):=hx;have bm:Hid (RatV w d X N):=hy;have an:0<E:=bs;have ap:0<N:=ce;have bn:32*(2*O)=32*O+32*O:=by omega
 have cl:Hid ((U*(N:Int)).natAbs<2^(32*(2*O))):=by
  show (U*(N:Int)).natAbs<2^(32*(2*O));rw[cn,aA,bn,ah];exact bC bq ag
 have cr:Hid ((X*(E:Int)).natAbs<2^(32*(2*O))):=by
  show (X*(E:Int)).natAbs<2^(32*(2*O));rw[cn,aA,bn,ah];exact bC bu af
 have bi:Hid (∀ m px ox py oy,px<m.heap.size→py<m.heap.size→IntIs m px ox (E:Int)→IntIs m py oy (N:Int)→_):=fun m px ox py oy h1 h2 h3 h4=>mT m px ox py oy (E:Int) (N:Int) O eX bz.out ca.out h1 h2 h3 h4;by_cases he:E=N
 ·subst he;have h1:cmpI (E:Int) (E:Int)=0:=by unfold cmpI;rw[if_neg eX,if_pos rfl]
  rw[h1] at bi;rw[q2l bs];have dq:Hid (∀ m,G w m→_):=fun m g=>mT m bx 0 d 0 U X O eX bv.out bw.out (de g Z) (de g c) (df dr.out Z g) (df ds.out c g);generalize cmpI U X=cv at *;clear hx hy bq bu af ag bs ce h1 cl cr bn;go_enter Tryz.func25,Tryz.ntmps25;go_wp2_with fail;refine eW (jd w w (ad w) bx U E an Z bl.out) ?_;rintro e m ⟨px,ox,rfl,s,kx,-⟩;have al:Hid (DI w m px ox E):=kx;clear kx;go_wp2_with fail;refine eW (jd w m s d X E ap c bm.out) ?_;rintro e w2 ⟨py,oy,rfl,y,ky,-⟩;have ai:Hid (DI w w2 py oy E):=ky;have S:Hid (DI w w2 px ox E):=al.out.G y;have M:=ab s y;clear ky al;clear s y;go_wp2_with fail;refine eW (bi.out w2 px ox py oy (S.out.is M).1 (ai.out.is M).1 (S.out.is M).2 (ai.out.is M).2) ?_;rintro e w3 ⟨rfl,am⟩;have R:=ab M am;clear am M;go_wp2_with fail;refine gL 6 (G w3) eZ (by first|exact(ad _).drew|exact G.drew mB) ?_;intro eb;refine eY 0 (v:= ?_) rfl eZ (fun _ _ _ h=>h) rfl ?_ ‹_› ?_;rotate_left
  ·exact mA
  try simp only[aput,List.set]
  refine eY 1 (v:= ?_) rfl eZ (fun _ _ _ h=>h) rfl ?_ ‹_› ?_;rotate_left
  ·exact mA
  try simp only[aput,List.set]
  refine eY 2 (v:= ?_) rfl eZ (fun _ _ _ h=>h) rfl ?_ ‹_› ?_;rotate_left
  ·exact mA
  try simp only[aput,List.set]
  refine eY 3 (v:= ?_) rfl eZ (fun _ _ _ h=>h) rfl ?_ ‹_› ?_;rotate_left
  ·exact mA
  try simp only[aput,List.set]
  refine eY 4 (v:= ?_) rfl eZ (fun _ _ _ h=>h) rfl ?_ ‹_› ?_;rotate_left
  ·exact mA
  try simp only[aput,List.set]
  refine eY 5 (v:= ?_) rfl eZ (fun _ _ _ h=>h) rfl ?_ ‹_› ?_;rotate_left
  ·exact mA
  try simp only[aput,List.set]
  show gE _ _ _ _ _ _ _ _ _ w3.drew;generalize w3.drew=ee at *;have cb:=ab R eb;refine fc (i:=6) eZ rfl ?_;intro K C;go_simp;go_wp2_with (go_at_call 88;refine eW (dq.out ee cb) ?_;rintro e w4 ⟨rfl,ec⟩);refine C.out _ _ (Or.inl fk) ?_;have ea:=ab cb ec;clear C K;refine fc (i:=7) eZ rfl ?_;intro K C;go_simp;refine C.out _ _ (Or.inl fk) ?_;clear C K;refine fS eZ ?_ _;go_wp2_with fail;go_ret;exact⟨rfl,ea⟩
 ·have h1:(cmpI (E:Int) (N:Int)==0)=false:=by
   unfold cmpI;by_cases h:(E:Int)<N
   ·rw[if_pos h];rfl
   ·rw[if_neg h,if_neg eX];rfl
  have cs:=hi9 h1;generalize cmpI (E:Int) (N:Int)=cd at *;clear hx hy bq bu af ag bs ce h1 he bn;have t1:=cs.out;go_enter Tryz.func25,Tryz.ntmps25;go_wp2_with fail;refine eW (jd w w (ad w) bx U E an Z bl.out) ?_;rintro e m ⟨px,ox,rfl,s,kx,-⟩;have al:Hid (DI w m px ox E):=kx;clear kx;go_wp2_with fail;refine eW (jd w m s d X N ap c bm.out) ?_;rintro e w2 ⟨py,oy,rfl,y,ky,-⟩;have ai:Hid (DI w w2 py oy N):=ky;have S:Hid (DI w w2 px ox E):=al.out.G y;have M:=ab s y;clear ky al;clear s y;go_wp2_with fail;refine eW (bi.out w2 px ox py oy (S.out.is M).1 (ai.out.is M).1 (S.out.is M).2 (ai.out.is M).2) ?_;rintro e w3 ⟨rfl,am⟩;have R:=ab M am;clear am M bi S ai;have cz:Hid (RatV w3 bx U E):=RatV.G bl.out Z R;have di:Hid (RatV w3 d X N):=RatV.G bm.out c R;clear bl bm;go_wp2_with fail;clear t1 cs;refine RV.region_inv 16 0 #[true,true,true,true,true,true,true,true,true,true,true,true,true,true,true,true] [some 18,some 19,some 20,some 21,some 22,some 23,some 24,some 25,some 26,some 27,some 28,some 29,some 30,some 31,some 32,some 4]
   (NV [(0,6),(7,13)] (fun j=>match j with|0=>U*(N:Int)|_=>X*(E:Int)) [5,12] (fun j=>match j with|5=>(N:Int)|_=>(E:Int)) [1,2,3,4,8,9,10,11,14,15] (fun j=>match j with|1=> .pointer (some ⟨bx,0,none⟩)|2=> .pointer (some ⟨bx,0,none⟩)|3=> .pointer (some ⟨bx,0,none⟩)|11=> .pointer (some ⟨bx,0,none⟩)|14=> .int .i64 (cmpI (U*(N:Int)) (X*(E:Int)))|15=> .int .i64 (cmpI (U*(N:Int)) (X*(E:Int)))|_=> .pointer (some ⟨d,0,none⟩)) [(6,0),(13,7)] w3) eZ eZ rfl eZ eZ (fun f=>NV.first (ad _).drew) ?_
  intro A Y;simp only[List.range,List.range.loop,du,eH,fG,Act.put,aq,ay,az] at Y;refine⟨aC rfl ?_ (aC rfl ?_ (aC rfl ?_ (aC rfl ?_ (aC rfl ?_ (aC rfl ?_ (aC rfl ?_ (aC rfl ?_ (aC rfl ?_ (aC rfl ?_ (aC rfl ?_ (aC rfl ?_ (aC rfl ?_ (aC rfl ?_ (aC rfl ?_ (aC rfl ?_ RV.Ones.nil))))))))))))))),?_⟩
  ·intro L f W B J I K C;rw[Y f] at C ⊢;go_simp;exact C.out _ _ ⟨_,rfl,NV.nw B _ _ fk J⟩
  ·intro L f W B J I K C;rw[Y f] at C ⊢;go_simp;exact C.out _ _ ⟨_,rfl,NV.fix B _ fk J⟩
  ·intro L f W B J I K C;rw[Y f,show f 1= .pointer (some ⟨bx,0,none⟩) from B.fx 1 fk (I 1 eZ)] at C ⊢;go_simp;exact C.out _ _ ⟨_,rfl,NV.fix B _ fk J⟩
  ·intro L f W B J I K C;rw[Y f,show f 2= .pointer (some ⟨bx,0,none⟩) from B.fx 2 fk (I 2 eZ)] at C ⊢;go_simp;exact C.out _ _ ⟨_,rfl,NV.fix B _ fk J⟩
  ·intro L f W B J I K C;rw[Y f] at C ⊢;go_simp;exact C.out _ _ ⟨_,rfl,NV.fix B _ fk J⟩
  ·intro L f W B J I K C;rw[Y f,show f 4= .pointer (some ⟨d,0,none⟩) from B.fx 4 fk (I 4 eZ)] at C ⊢;go_simp;go_wp2_with (go_at_call 73;refine eW (jd w3 W B.g d X N ap (de R c) di.out) ?_;rintro e w' ⟨p,o,rfl,g,k1,k2⟩);exact C.out _ _ ⟨_,rfl,NV.dn B _ fk J g k1 k2⟩
  ·intro L f W B J I K C;rw[Y f] at C ⊢;have l1:=I 0 eZ;obtain⟨p,e1,k1⟩:=B.raw (j:=0) (k:=6) fk l1 J;obtain⟨q,o,e6,k6,k7⟩:=B.low (j:=5) fk (I 5 eZ) rfl;have e4:f 3= .pointer (some ⟨bx,0,none⟩):=B.fx 3 fk (I 3 eZ);have cc:=e1;rw[e1,e4,e6] at C ⊢;have hM:=hi9 (jr W p 0 bx 0 q o 0 U N O eX bv.out ca.out k1.2.1 (de B.g (de R Z)) k6 k1.2.2 (df cz.out.num (de R Z) B.g) k7);clear I e1 e4 e6 k6 k7;go_simp;go_wp2_with (go_at_call 72;refine eW hM.out ?_;intro e w' hx;have hs:=bj B.g k1 hx;obtain rfl:=hs.1);exact C.out _ _ ⟨_,rfl,NV.wr B 6 0 fk J l1 cc hs⟩
  ·intro L f W B J I K C;rw[Y f] at C ⊢;go_simp;exact C.out _ _ ⟨_,rfl,NV.nw B _ _ fk J⟩
  ·intro L f W B J I K C;rw[Y f] at C ⊢;go_simp;exact C.out _ _ ⟨_,rfl,NV.fix B _ fk J⟩
  ·intro L f W B J I K C;rw[Y f,show f 8= .pointer (some ⟨d,0,none⟩) from B.fx 8 fk (I 8 eZ)] at C ⊢;go_simp;exact C.out _ _ ⟨_,rfl,NV.fix B _ fk J⟩
  ·intro L f W B J I K C;rw[Y f,show f 9= .pointer (some ⟨d,0,none⟩) from B.fx 9 fk (I 9 eZ)] at C ⊢;go_simp;exact C.out _ _ ⟨_,rfl,NV.fix B _ fk J⟩
  ·intro L f W B J I K C;rw[Y f] at C ⊢;go_simp;exact C.out _ _ ⟨_,rfl,NV.fix B _ fk J⟩
  ·intro L f W B J I K C;rw[Y f,show f 11= .pointer (some ⟨bx,0,none⟩) from B.fx 11 fk (I 11 eZ)] at C ⊢;go_simp;go_wp2_with (go_at_call 73;refine eW (jd w3 W B.g bx U E an (de R Z) cz.out) ?_;rintro e w' ⟨p,o,rfl,g,k1,k2⟩);exact C.out _ _ ⟨_,rfl,NV.dn B _ fk J g k1 k2⟩
  ·intro L f W B J I K C;rw[Y f] at C ⊢;have l1:=I 7 eZ;obtain⟨p,e1,k1⟩:=B.raw (j:=7) (k:=13) fk l1 J;obtain⟨q,o,e6,k6,k7⟩:=B.low (j:=12) fk (I 12 eZ) rfl;have e4:f 10= .pointer (some ⟨d,0,none⟩):=B.fx 10 fk (I 10 eZ);have cc:=e1;rw[e1,e4,e6] at C ⊢;have hM:=hi9 (jr W p 0 d 0 q o 0 X E O eX bw.out bz.out k1.2.1 (de B.g (de R c)) k6 k1.2.2 (df di.out.num (de R c) B.g) k7);clear I e1 e4 e6 k6 k7;go_simp;go_wp2_with (go_at_call 72;refine eW hM.out ?_;intro e w' hx;have hs:=bj B.g k1 hx;obtain rfl:=hs.1);exact C.out _ _ ⟨_,rfl,NV.wr B 13 7 fk J l1 cc hs⟩
  ·intro L f W B J I K C;rw[Y f] at C ⊢;have l6:=I 6 eZ;have ci:=I 13 eZ;obtain⟨l0,e6⟩:=B.sm 6 0 fk l6;obtain⟨l7,dl⟩:=B.sm 13 7 fk ci;obtain⟨q,e1,k1⟩:=B.made (j:=0) (k:=6) fk l6 rfl;obtain⟨r,e8,k8⟩:=B.made (j:=7) (k:=13) fk ci rfl;rw[e6,e1,dl,e8] at C ⊢;have hM:=hi9 (mT W q 0 r 0 _ _ (2*O) eX cl.out cr.out k1.2.1 k8.2.1 k1.2.2 k8.2.2);clear I e6 e1 dl e8 k1 k8 l0 l6 l7 ci;go_simp;go_wp2_with (go_at_call 88;refine eW hM.out ?_;rintro e w' ⟨rfl,g⟩);exact C.out _ _ ⟨_,rfl,NV.fixg B _ fk J g⟩
  ·intro L f W B J I K C;rw[Y f,show f 14= .int .i64 (cmpI (U*(N:Int)) (X*(E:Int))) from B.fx 14 fk (I 14 eZ)] at C ⊢;go_simp;exact C.out _ _ ⟨_,rfl,NV.fix B _ fk J⟩
  intro f L em B hl;refine wpAny_done eZ ?_ _;rw[Y f,show f 15= .int .i64 (cmpI (U*(N:Int)) (X*(E:Int))) from B.fx 15 fk (hl 15 fk)];have hG:=ab R B.g;clear Y hl B;go_wp2_with fail;go_ret;exact⟨rfl,hG⟩
/-- Words laid over a row of our own. -/
theorem q1K {w:World} {b:Nat}:∀ {m l:List Nat} {o:Nat},Own w b l→okw m→o+m.length≤l.length→
  Own (w.setCells b o (m.map fun d=> .int .u32 (d:Nat))) b (l.take o++(m++l.drop (o+m.length))):=by
 intro m
 induction m generalizing w with
 |nil=>intro l o h _ _;simpa [World.setCells] using h
 |cons d m I=>
  intro l o h E C;obtain⟨B,A⟩:=okw_cons.1 E;simp only[cw] at C;have h1:=Own.set h o d eX B;have h2:=I (l:=l.set o d) (o:=o+1) h1 A (by rw[aF];omega);rw[du];simp only[World.setCells];have e:(l.set o d).take (o+1)++(m++(l.set o d).drop (o+1+m.length))=l.take o++(d::m++l.drop (o+(m.length+1))):=by
   rw[iH (by rw[aF];omega),gu,fB eX,cA eX];simp [Nat.add_comm,Nat.add_left_comm]
  rw[cw,← e];exact h2
theorem q0E {w0:World} {b:Nat} (hb:w0.heap.size≤b):∀ (cs:List Value) (w:World) (o:Nat),G w0 w→G w0 (w.setCells b o cs)
 |[],_,_,h=>h
 |v::cs,_,o,h=>q0E hb cs _ _ (G.setCell h (p:=⟨b,o,none⟩) hb v)
theorem q1V {w:World} {b o:Nat} {l:List Nat} (h:Row w b o l):∀ j v,(l.map fun d=>Value.int .u32 (d:Nat))[j]? =some v→w.cell? ((⟨b,o,none⟩:Addr).add j)=some v:=by
 intro j u B;rw[en] at B;obtain⟨d,A,rfl⟩:=cQ.1 B;have:=h j (bM.1 A).1;rw[ak,A] at this;rw[show ((⟨b,o,none⟩:Addr).add j)=⟨b,o+j,none⟩ from Addr.add_lit ..];exact this
theorem q1I (l:List Nat):∀ u∈(l.map fun d=>Value.int .u32 (d:Nat)),u.oneCell'=true:=by
 intro u hu;obtain⟨d,-,rfl⟩:=List.mem_map.1 hu;rfl
/-- 'copy' of a slice to the beginning of a row of our own that is newer than w0. -/
theorem sd {w0 w:World} {b n:Nat} {zs l:List Nat} {va:Value} (h:Own w b zs) (U:zs.length=n) (I:Sl w va l) (O:l.length≤n) (g:G w0 w) (hb:w0.heap.size≤b) (E:TypeId):
  ∃ w',(Builtin.copy_ #[41,41] E #[.slice (some ⟨b,0,none⟩) n n,va]).run Tryz.prog w= .ok (goInt l.length) w'∧Own w' b (l++zs.drop l.length)∧G w0 w':=by
 have B:=I.1;rcases Sl.cases I with ⟨rfl,a,c,rfl⟩|⟨R,K,S,c1,rfl,N,M,C⟩
 ·exact⟨w,run_copy_none w 41 41 E 182 _ _ _ _ _ _ Tryz.underlying41 eZ fX,h,g⟩
 ·have J:=q1K (o:=0) h B eX;rw[List.take_zero,List.nil_append,aK] at J;have A:=run_copy_cells (P:=Tryz.prog) w 41 41 E 182 b 0 n n ⟨K,S,none⟩ l.length c1 (l.map fun d=> .int .u32 (d:Nat)) Tryz.underlying41 eZ
   (by rw[dx];exact(ck O).symm) (q1V C)
   (fun i hi=>by rw[dx] at hi;rw[aK,Own.cell h eX];rfl)
   (fun i hi=>by rw[dx] at hi;rw[aK];exact Own.frozen h eX) (q1I l)
  rw[dx] at A;exact⟨_,A,J,q0E hb _ _ _ g⟩
theorem p7 (n:Nat):val (List.replicate n 0)=0:=by
 induction n with
 |zero=>rfl
 |succ n A=>rw[List.replicate_succ,val,A]
theorem q6S (w:World) (bx O n:Nat) (v:Value) (l:List Nat) (U:n≤1048576) (M:Sl w v l) (C:l.length≤n) (W:mQ w bx O false v) (J:bx<w.heap.size):
  Calls Tryz.prog 244 #[.pointer (some ⟨bx,O,none⟩),.int .i64 (n:Int)] w fun e w'=>∃ b cs,e= .returned (.slice (some ⟨b,0,none⟩) n n)∧G w w'∧w.heap.size≤b∧Own w' b cs∧cs.length=n∧cs=l++List.replicate (n-l.length) 0:=by
 obtain⟨c1,X,-,-⟩:=W;have S:=gV n eX;have B:G w (w.alloc (.cells (madeCells #[.int .u32 0] n) 182)):=(ad _).alloc _;obtain⟨Y,N,A,K⟩:=sd (n:=n) (va:=v) (gh w n 182) fX (M.G B) C B (aI _) 3;rw[eG] at A;have R:=hi9 A;have d1:=K.cell J c1;have E:(l++List.replicate (n-l.length) 0).length=n:=by simp;omega
 have I:=hi9 E;clear A M C U E;generalize l++List.replicate (n-l.length) 0=cs at *;go_enter Tryz.func244,Tryz.ntmps244;go_wp2_with fail;go_ret;exact⟨w.heap.size,cs,rfl,K,aI _,R.out,I.out,rfl⟩
theorem of_c (w:World) (b o p n:Nat) (M:Int) (cs:List Nat) (W:n+1≤1048576) (hb:b<w.heap.size) (K:IntIs w b o M) (A:Own w p cs) (B:cs.length=n+1) (E:cs.getD n 0<2^31):
  Calls Tryz.prog 245 #[.pointer (some ⟨b,o,none⟩),.slice (some ⟨p,0,none⟩) (n+1) (n+1)] w (SetTo w b o (val cs:Nat)):=by
 have N:=hi9 K;have O:=hi9 (gi A B eX);have S:(n:Int)≤1048575:=by omega
 have U:=Own.cell A (i:=n) (by rw[B];omega);have R:((cs.getD n 0:Nat):Int)/2147483648=0:=by omega
 generalize val cs=V at *;generalize cs.getD n 0=z at *;clear K A B E;go_enter Tryz.func245,Tryz.ntmps245;go_wp2_with fail;refine eW O.out ?_;rintro e Y ⟨X,rfl,C,I⟩;go_wp2_with fail;refine eW (gy (w0:=w) hb C (gO _ b o _ M _ _ (df N.out hb C) I)) ?_;rintro e Z ⟨rfl,J⟩;go_wp2_with fail;go_ret;exact J
theorem qA {cs:List Nat} {i q s:Nat} (A:okw cs) (hi:i=32*q+s) (C:s≤31) (B:q<cs.length):val cs/2^i%2=cs.getD q 0/2^s%2:=by
 have e:val cs/2^i=val (cs.drop q)/2^s:=by
  rw[iD A q,bR,← ah,← hi]
 rw[e,fD B];show (cs.getD q 0+2^32*val (cs.drop (q+1)))/2^s%2=_;have h2:2^32*val (cs.drop (q+1))=2^s*(2*(2^(31-s)*val (cs.drop (q+1)))):=by
  rw[← ar 2,← dT,← ar,← ah,show s+(31-s+1)=32 from by omega]
 rw[h2,cZ _ _ (ae _),dh]
theorem rI {cs:List Nat} {q y:Nat} (A:q<cs.length):val (cs.set q (cs.getD q 0+y))=val cs+2^(32*q)*y:=by
 rw[fT (l:=cs.set q (cs.getD q 0+y)) (k:=q) (by rw[aF];exact A),fT (l:=cs) A,gu,fB A,cA eX];rw[aE,aE,aE];omega
theorem oW {x s:Nat} (C:x<2^32) (hb:x/2^s%2=0) (O:s≤31):bits .andNot .u32 (x:Int) (2^s%4294967296)=(x:Int)∧bits .or .u32 (x:Int) (bits .and .u64 1 1%4294967296*2^s%4294967296)=((x+2^s:Nat):Int)∧x+2^s<2^32:=by
 have R:2^s≤2^31:=ao eX O;have M:((2:Int)^s%4294967296)=((2^s:Nat):Int):=by
  rw[FT.ipow];generalize 2^s=p at *;omega
 have N:bits .and .u64 1 1%4294967296*2^s%4294967296=((2^s:Nat):Int):=by
  rw[show bits .and .u64 1 1=1 from by decide,FT.ipow];generalize 2^s=p at *;omega
 have I:=cu x (2^(s+1));have A:x%2^(s+1)=x%2^s:=by
  rw[bH,eD,hb,bG,aP]
 have J:x%2^s<2^s:=aW _ (ae s);have B:x|||2^s=x+2^s:=by
  have h1:x=2^(s+1)*(x/2^(s+1))|||x%2^s:=by
   rw[nat_join (s+1) _ _ (eM _ _) (by rw[bH];omega),← A];exact I.symm
  have h2:x|||2^s=2^(s+1)*(x/2^(s+1))|||(2^s|||x%2^s):=by
   rw[dN (2^s),← Nat.or_assoc,← h1]
  rw[h2,nat_join s (2^s) _ (Nat.mod_self _) J,nat_join (s+1) _ _ (eM _ _) (by rw[bH];omega),← A];omega
 refine⟨?_,?_,?_⟩
 ·rw[M,u32_andNot_nat x _ C eX]
  congr 1
  apply Nat.eq_of_testBit_eq;intro j;rw[Nat.testBit_and,show 4294967295-2^s=2^32-(2^s+1) from by omega,Nat.testBit_two_pow_sub_succ eX,Nat.testBit_two_pow];by_cases K:s=j
  ·subst K;rw[Nat.testBit_eq_decide_div_mod_eq,hb];simp
  ·by_cases E:j<32
   ·simp [K,E]
   ·rw[Nat.testBit_lt_two_pow (aj C (ao eX eX))];simp
 ·rw[N,u32_or_nat x _ C eX,B]
 ·rw[← B];exact Nat.or_lt_two_pow C eX
theorem q3E (w:World) (b bx ox i:Nat) (s0:Int) (a K:Nat) (hK:K≤500000) (hi:i≤10000000) (c:a<2^(32*K)) (O:a/2^i%2=0) (hb:b<w.heap.size) (al:bx<w.heap.size)
  (hz:IntIs w b 0 s0) (hx:IntIs w bx ox (a:Int)):
  Calls Tryz.prog 179 #[.pointer (some ⟨b,0,none⟩),.pointer (some ⟨bx,ox,none⟩),.int .i64 (i:Int),.int .u64 1] w (SetTo w b 0 ((a+2^i:Nat):Int)):=by
 obtain⟨nn,v,a',m,hv,h1,h2⟩:=hx;have ha:=gp h1;rw[aA] at ha;subst ha;have hn:nn=false:=by
  cases nn
  ·rfl
  ·have:=h2 rfl;unfold sg at h1;simp at h1;omega
 subst hn;obtain⟨l,hl,o,X⟩:=hv;rw[← X] at c O ⊢;have an:=fg o c;obtain⟨pa,ca,rfl,bq,-⟩:=fF hl;generalize hj:l.length=j at *;obtain⟨n,y⟩:∃ n:Nat,n=max j (i/32+1):=⟨_,rfl⟩;have bs:(i:Int)/32=((i/32:Nat):Int):=by omega
 have bu:(i:Int)%32=((i%32:Nat):Int):=by omega
 have cd:IntKind.u64.wrap (i:Int)=i:=by rw[IntKind.wrap_u64];omega
 generalize hq:i/32=q at *;generalize ag:i%32=s at *;have k:Hid _:=q6S w bx ox (n+1) _ l eX (by rw[← hj] at *;exact hl) eX m al;obtain⟨c1,c2,-,-⟩:=m;have bv:(i:Int)≤10000000:=by omega
 have cb:(q:Int)≤312500:=by omega
 have bw:(j:Int)≤500000:=by omega
 have bz:(n:Int)≤500000:=by omega
 have cc:(q:Int)<n:=by omega
 have W:=hi9 (And.intro hq ag);have HB:=hi9 O;have N:=hi9 hb;have HZ:=hi9 hz;clear hK c an o hb hq ag O hz h1 h2 X;by_cases am:q+1≤j
 ·obtain rfl:n=j:=by omega
  have t0:(q:Int)+1≤n:=by omega
  clear y;go_enter Tryz.func179,Tryz.ntmps179;go_wp2_with fail;refine eW k.out ?_;rintro e w1 ⟨p,cs,rfl,g1,hp,A,S,J⟩;have hc:=Own.cell A (i:=q) eX;have hf:=Own.frozen A (i:=q) eX;have C:=ff A.1 q;have M:val cs=val l:=by rw[J,val_append,p7,bG,aP]
  have R:cs.getD n 0=0:=by
   rw[J,ak,List.getElem?_append_right eX,eT];split<;>rfl
  have I:=qA A.1 (i:=i) (q:=q) (s:=s) (by have:=W.out;omega) (by have:=W.out;omega) eX;rw[M,HB.out] at I;have B:val (cs.set q (cs.getD q 0+2^s))=val l+2^i:=by rw[rI eX,M,show i=32*q+s from by have:=W.out;omega,ah]
  generalize bi:cs.getD q 0=x at *;obtain⟨bl,bm,d⟩:=oW (s:=s) C I.symm (by have:=W.out;omega);have Z:Hid _:=Own.set (Own.set A q x eX C) q (x+2^s) (by rw[aF];omega) d;have Y:Hid ((((cs.set q x).set q (x+2^s)).getD n 0<2^31∧((cs.set q x).set q (x+2^s)).length=n+1)∧val ((cs.set q x).set q (x+2^s))=val l+2^i):=by
   rw[List.set_set];refine⟨⟨?_,by rw[aF];exact S⟩,B⟩;rw[ak,aY eX,← ak,R];omega
  have ap:(x:Int)≤4294967295:=by omega
  have E:G w _:=G.setCell (G.setCell g1 (p:=⟨p,q,none⟩) hp (.int .u32 (x:Int))) (p:=⟨p,q,none⟩) hp (.int .u32 ((x+2^s:Nat):Int));generalize (cs.set q x).set q (x+2^s)=ds at *;clear A J B R M I;go_wp2_with fail;refine eW (gy (w0:=w) N.out E (of_c _ b 0 p n s0 ds eX (de E N.out) (df HZ.out N.out E) Z.out Y.out.1.2 Y.out.1.1)) ?_;rintro e w3 ⟨rfl,U⟩;rw[Y.out.2] at U;go_wp2_with fail;go_ret;exact U
 ·have af:n=q+1:=by omega
  have ai:=hi9 af;have bn:j<n:=by omega
  clear af am;have t1:(q:Int)+1=n:=by have:=ai.out;omega
  have t0:(j:Int)<n:=by omega
  clear y;go_enter Tryz.func179,Tryz.ntmps179;go_wp2_with fail;refine eW k.out ?_;rintro e w1 ⟨p,cs,rfl,g1,hp,A,S,J⟩;have hc:=Own.cell A (i:=q) eX;have hf:=Own.frozen A (i:=q) eX;have C:=ff A.1 q;have M:val cs=val l:=by rw[J,val_append,p7,bG,aP]
  have R:cs.getD n 0=0:=by
   rw[J,ak,List.getElem?_append_right eX,eT];split<;>rfl
  have I:=qA A.1 (i:=i) (q:=q) (s:=s) (by have:=W.out;omega) (by have:=W.out;omega) eX;rw[M,HB.out] at I;have B:val (cs.set q (cs.getD q 0+2^s))=val l+2^i:=by rw[rI eX,M,show i=32*q+s from by have:=W.out;omega,ah]
  generalize bi:cs.getD q 0=x at *;obtain⟨bl,bm,d⟩:=oW (s:=s) C I.symm (by have:=W.out;omega);have Z:Hid _:=Own.set (Own.set A q x eX C) q (x+2^s) (by rw[aF];omega) d;have Y:Hid ((((cs.set q x).set q (x+2^s)).getD n 0<2^31∧((cs.set q x).set q (x+2^s)).length=n+1)∧val ((cs.set q x).set q (x+2^s))=val l+2^i):=by
   rw[List.set_set];refine⟨⟨?_,by rw[aF];exact S⟩,B⟩;rw[ak,aY eX,← ak,R];omega
  have ap:(x:Int)≤4294967295:=by omega
  have E:G w _:=G.setCell (G.setCell g1 (p:=⟨p,q,none⟩) hp (.int .u32 (x:Int))) (p:=⟨p,q,none⟩) hp (.int .u32 ((x+2^s:Nat):Int));generalize (cs.set q x).set q (x+2^s)=ds at *;clear A J B R M I;go_wp2_with fail;refine eW (gy (w0:=w) N.out E (of_c _ b 0 p n s0 ds eX (de E N.out) (df HZ.out N.out E) Z.out Y.out.1.2 Y.out.1.1)) ?_;rintro e w3 ⟨rfl,U⟩;rw[Y.out.2] at U;go_wp2_with fail;go_ret;exact U
theorem q6f (w:World) (b o bx X S Y:Nat) (m sx C:Int) (K:Nat) (hK:K≤300000) (N:sx.natAbs<2^(32*K)) (R:C.natAbs<2^(32*K)) (O:C≠0) (hb:b<w.heap.size) (J:bx<w.heap.size) (M:S<w.heap.size)
  (W:IntIs w b o m) (d:IntIs w bx X sx) (j:IntIs w S Y C):
  Calls Tryz.prog 210 #[.pointer (some ⟨b,o,none⟩),.pointer (some ⟨bx,X,none⟩),.pointer (some ⟨S,Y,none⟩)] w (SetTo w b o (Int.tdiv sx C)):=by
 have A:G w (w.alloc (.cells #[.bool false,.slice none 0 0] 43)):=(ad _).alloc _;have I:b≠w.heap.size:=by omega
 have s:=hi9 (rq (w.alloc (.cells #[.bool false,.slice none 0 0] 43)) b o bx X S Y w.heap.size 0 m 0 sx C K hK N R O (de A hb) fX (de A J) (de A M) (df W hb A) (mD w _) (Or.inl eX) (df d J A) (df j M A));generalize Int.tdiv sx C=q at *;generalize Int.tmod sx C=r at *;have Z:=hi9 A;have y:=hi9 W;clear W d j N R O A;go_enter Tryz.func210,Tryz.ntmps210;go_wp2_with fail;refine eW s.out ?_;rintro e w3 ⟨rfl,w2,e1,e2,h1,h2⟩;go_wp2_with fail;go_ret;have U:=h2;have kp:=SetTo.keep (df y.out hb Z.out) h1 (mD w 43) fX (Or.inl eX);have k1:=SetTo.after hb Z.out h1;obtain⟨-,B,⟨k3,k4⟩,k5⟩:=k1;obtain⟨-,g2,-,-⟩:=h2;have E:w3.heap[b]? =w2.heap[b]? :=g2.block b (aj hb B.size) (fun e=>I (ct e));refine⟨rfl,⟨g2.os.trans B.os,g2.tape.trans B.tape,g2.output.trans B.output,bt B.size g2.size,fun k c hn=> ?_⟩,⟨fun i hi hi2=>(World.cell?_of_block E).trans (k3 i hi hi2),fun i=>(World.frozen?_of_block E).trans (k4 i)⟩,?_⟩
 ·exact(g2.block k (aj c B.size) (fun e=>by have:=ct e;omega)).trans (B.block k c hn)
 ·exact SetTo.keep kp U k5 (aj hb B.size) (Or.inl I)
theorem q1T {a r s:Nat} (h1:r*r≤a) (h2:a<(r+1)*(r+1)) (h3:s*s≤a) (B:a<(s+1)*(s+1)):r=s:=by
 have step:∀ {x y:Nat},x*x≤a→a<(y+1)*(y+1)→x≤y:=fun {x y} h k=>by
  rcases bI y x with A|A
  ·have:=bF (Nat.succ_le_of_lt A) (Nat.succ_le_of_lt A);simp only[Nat.succ_eq_add_one] at this;omega
  ·exact A
 exact Nat.le_antisymm (step h1 B) (step h3 h2)
theorem q5e {a r p:Nat} (h2:a<(r+(p+p))*(r+(p+p))):a<(r+p+p)*(r+p+p):=by rw[cM];exact h2
theorem q2P {r k:Nat} (h:r%2^(k+1)=0):r%2^k=0∧(r+2^k)%2^k=0∧r/2^k%2=0:=by
 obtain⟨c,A⟩:=dy h;rw[bH,ar] at A;subst A;refine⟨eM _ _,by rw[Nat.add_mod_right,eM],?_⟩;rw[cB _ (ae _),eM]
theorem q5f (w:World) (b o bx ox:Nat) (s0:Int) (a s K:Nat) (hK:K≤100000) (ez:1≤K) (S:a<2^(32*K)) (h1:s*s≤a) (h2:a<(s+1)*(s+1)) (hb:b<w.heap.size) (ag:bx<w.heap.size)
  (hz:IntIs w b o s0) (hx:IntIs w bx ox (a:Int)):
  Calls Tryz.prog 96 #[.pointer (some ⟨b,o,none⟩),.pointer (some ⟨bx,ox,none⟩)] w (SetTo w b o (s:Int)):=by
 have eu:=hx;obtain⟨nn,v,E,⟨c1,c2,-,-⟩,hv,k1,k2⟩:=eu;have ha:=gp k1;rw[aA] at ha;subst ha;have hn:nn=false:=by
  cases nn
  ·rfl
  ·have:=k2 rfl;unfold sg at k1;simp at k1;omega
 subst hn;have B:=(ad w).alloc (.cells #[.bool false,.slice none 0 0] 43);have bu:=ei (ad w) 43;have d2:=B.cell ag c2;have eb:blen E≤32*K:=blen_le_iff.2 S;have ap:=hi9 (nq (w.alloc (.cells #[.bool false,.slice none 0 0] 43)) v E K eX (hv.G B) S);have cb:E<2^blen E:=blen_le_iff.1 (aI _);have HS:=hi9 (And.intro h1 h2);have HX:Hid (IntIs w bx ox (E:Int)):=hx;have HZ:Hid (IntIs w b o s0):=hz;have HA:=hi9 S;have al:=hi9 ag;have d:=hi9 hb;generalize hL:blen E=L at *;have cz:E<(0+2^((L+1)/2+1))*(0+2^((L+1)/2+1)):=by
  rw[aK,← ah];exact aj cb (ao eX eX)
 have ds:=hi9 cz;have hh:((L:Int)+1)/2=(((L+1)/2:Nat):Int):=by omega
 have fa:((L+1)/2:Nat)≤16*K+1:=by omega
 generalize (L+1)/2=M at *;have fb:(L:Int)≤3200000:=by omega
 have fh:(M:Int)≤3200000:=by omega
 clear cz cb h1 h2 k1 k2 hx hz S hb ag hL eb hv;have bi:Hid (NI w (w.alloc (.cells #[.bool false,.slice none 0 0] 43)) w.heap.size 0):=bu;clear bu;go_enter Tryz.func96,Tryz.ntmps96;go_wp2_with fail;refine eW ap.out ?_;rintro e w2 ⟨rfl,g2⟩;have bn:G w w2:=ab B g2;have i:Hid (NI w w2 w.heap.size 0):=bi.out.G g2;generalize w.heap.size=p0 at i ⊢;clear bi ap d2 B g2;go_wp2_with fail
 go_loopw [5,6] (fun vr vi wr=>∃ k p r:Nat,k≤M+1∧vi= .int .i64 ((k:Int)-1)∧vr= .pointer (some ⟨p,0,none⟩)∧NI w wr p (r:Int)∧r*r≤E∧E<(r+2^k)*(r+2^k)∧r%2^k=0∧G w wr) (fun _ vi _=>(intOf vi+1).toNat)
 case atStart=>exact⟨M+1,p0,0,aI _,by go_num,rfl,i.out,bU _,ds.out,Nat.zero_mod _,bn⟩
 case round=>
  obtain⟨k,p,r,hk,rfl,rfl,ce,C,ci,cl,hG⟩:=hrel;have J:Hid (NI w wr p (r:Int)):=ce;have A:=hi9 (And.intro C (And.intro ci cl));clear ce C ci cl bn i hh;cases k with
  |zero=>
   obtain rfl:r=s:=q1T A.out.1 A.out.2.1 HS.out.1 HS.out.2;go_wp2_with fail;refine eW (gy (w0:=w) d.out hG (my _ b o p 0 s0 r K eX (by rw[aA];exact aD (bt (Nat.le_mul_self r) A.out.1) HA.out) (de hG d.out) J.out.2.1 (df HZ.out d.out hG) J.out.2.2)) ?_;rintro e c ⟨rfl,ep⟩;go_wp2_with fail;go_ret;exact ep
  |succ k=>
   rw[show (((k+1:Nat):Int)-1)=(k:Int) from by omega] at *;obtain⟨m1,m2,m3⟩:=q2P A.out.2.2;have ec:2^k≤2^(16*K+1):=ao eX eX;have ee:2^(32*(K+1))=2^(32*K)*4294967296:=by rw[aE,ah]
   have em:2^(16*K+1)≤2^(32*K):=ao eX eX;have cs:r<2^(32*K):=aD (bt (Nat.le_mul_self r) A.out.1) HA.out;have Y:r+2^k<2^(32*(K+1)):=by omega
   have dq:(r+2^k)*(r+2^k)<2^(32*(2*K+2)):=by
    rw[show 32*(2*K+2)=32*(K+1)+32*(K+1) from by omega,ah];exact bC Y Y
   have ca:E<2^(32*(2*K+2)):=aj HA.out (ao eX eX);have N:E<(r+2^k+2^k)*(r+2^k+2^k):=q5e (by rw[← Nat.two_mul,← dT];exact A.out.2.1);have HB:=hi9 (And.intro cs (And.intro Y (And.intro dq ca)));have HM:=hi9 (And.intro m3 (And.intro N (And.intro m1 m2)));have fp:(k:Int)≤3200000:=by omega
   clear m1 m2 m3 ec ee em cs Y dq ca N;go_wp2_with fail;have X:=ei hG 43;have af:=(ad wr).alloc (.cells #[.bool false,.slice none 0 0] 43);have B:=ab hG af;have C:=J.out.G af;have dl:p≠wr.heap.size:=by have:=J.out.2.1;omega
   generalize wr.heap.size=Z at *;generalize wr.alloc (.cells #[.bool false,.slice none 0 0] 43)=w1 at *;refine eW (q3E w1 Z p 0 k 0 r K eX eX HB.out.1 HM.out.1 X.2.1 C.2.1 X.2.2 C.2.2) ?_;intro e c hs;obtain⟨rfl,y,bz,-,cd⟩:=bj B X hs;have bv:=cd p _ dl C;have m:Hid (NI w c Z ((r+2^k:Nat):Int)):=bz;have j:Hid (NI w c p (r:Int)):=bv;clear hs cd bz bv X C af B dl J;go_wp2_with fail;have W:=ei y 43;have U:=(ad c).alloc (.cells #[.bool false,.slice none 0 0] 43);have bq:=ab y U;have I:=m.out.G U;have bw:=j.out.G U;have di:Z≠c.heap.size:=by have:=m.out.2.1;omega
   have cr:p≠c.heap.size:=by have:=j.out.2.1;omega
   generalize c.heap.size=pm at *;generalize c.alloc (.cells #[.bool false,.slice none 0 0] 43)=w4 at *;refine eW (jr w4 pm 0 Z 0 Z 0 0 _ _ (K+1) eX (by rw[aA];exact HB.out.2.1) (by rw[aA];exact HB.out.2.1) W.2.1 I.2.1 I.2.1 W.2.2 I.2.2 I.2.2) ?_;intro e w5 hs;obtain⟨rfl,O,R,-,ai⟩:=bj bq W hs;have bm:Hid (NI w w5 Z ((r+2^k:Nat):Int)):=ai Z _ di I;have bl:Hid (NI w w5 p (r:Int)):=ai p _ cr bw;rw[show ((r+2^k:Nat):Int)*((r+2^k:Nat):Int)=(((r+2^k)*(r+2^k):Nat):Int) from by push_cast;rfl] at R;have an:Hid _:=mT w5 pm 0 bx ox _ _ (2*K+2) eX (by rw[aA];exact HB.out.2.2.1) (by rw[aA];exact HB.out.2.2.2) R.2.1 (de O al.out) R.2.2 (df HX.out al.out O);clear hs ai R W U bq I bw di cr m j y hG;have cc:cmpI (((r+2^k)*(r+2^k):Nat):Int) (E:Int)≤0↔(r+2^k)*(r+2^k)≤E:=by
    unfold cmpI;split
    ·constructor<;>intro _<;>omega
    ·split
     ·constructor<;>intro _<;>omega
     ·constructor<;>intro _<;>omega
   generalize cmpI (((r+2^k)*(r+2^k):Nat):Int) (E:Int)=cv at *;have am:=hi9 cc;clear cc;go_wp2_with fail;refine eW an.out ?_;rintro e w6 ⟨rfl,g6⟩;have bs:=ab O g6;have ea:Hid (NI w w6 Z ((r+2^k:Nat):Int)):=bm.out.G g6;have dr:Hid (NI w w6 p (r:Int)):=bl.out.G g6;clear an bm bl O g6;by_cases hc:cv≤0
   ·go_wp2_with fail
    go_roundw
    case rel=>exact⟨k,Z,r+2^k,by omega,by go_num,rfl,ea.out,am.out.1 hc,HM.out.2.1,HM.out.2.2.2,bs⟩
    case measure=>simp only[intOf];omega
   ·go_wp2_with fail
    go_roundw
    case rel=>exact⟨k,p,r,by omega,by go_num,rfl,dr.out,A.out.1,Nat.lt_of_not_le (fun h=>by have:=am.out.2 h;omega),HM.out.2.2.1,bs⟩
    case measure=>simp only[intOf];omega
end Go.Proofs.YtohcneeihdkfgaaGreatDoor
