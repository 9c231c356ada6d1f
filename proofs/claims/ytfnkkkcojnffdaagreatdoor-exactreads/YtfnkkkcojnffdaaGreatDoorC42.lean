/- What is proved here: a slice of values of one cell, of our own, that grows, over this seat's translation (no program).
What is proved here: contracts of package exact: the text of a natural number of any size, over this seat's translation.
What is proved here: contracts of package exact: the text of a fraction, over this seat's translation.
What is proved here: contracts of the reference's big numbers: the decimal text of an Int, over this seat's translation.
What is proved here: contracts of the reference's big numbers: the decimal text of an Int (its loops), over this seat's translation.
What is proved here: contracts of the reference's ratios: their text, over this seat's translation.
What is proved here: contracts of the law on fractions: powers of two and ten, over this seat's translation. -/
import Derived.Test.YtfnkkkcojnffdaaGreatDoorC1
import Derived.Test.YtfnkkkcojnffdaaGreatDoorC33
import Derived.Test.YtfnkkkcojnffdaaGreatDoorC40
import Derived.Test.YtfnkkkcojnffdaaGreatDoorC3
import Derived.Test.YtfnkkkcojnffdaaGreatDoorC22
import Derived.Test.YtfnkkkcojnffdaaGreatDoorC19
import Derived.Test.YtfnkkkcojnffdaaGreatDoorC31
import Derived.Test.YtfnkkkcojnffdaaGreatDoorC23
import Derived.Test.YtfnkkkcojnffdaaGreatDoorC32
import Derived.Test.YtfnkkkcojnffdaaGreatDoorC27
import Derived.Test.YtfnkkkcojnffdaaGreatDoorC8
import Derived.Test.YtfnkkkcojnffdaaGreatDoorC10
namespace Go.Proofs.YtfnkkkcojnffdaaGreatDoor.EN
open Go.ChangeShapes Go.WideShapes Go.ChangeAt Go.RowKit
/-- A slice whose block is our own (from block base on), of values of one cell; of all cells of the block something is known. -/
def EO (e:TypeId) (ok:Value→Prop) (w:World) (B:Nat) (v:Value) (C:List Value):Prop:=
 (v= .slice none 0 0∧C=[])∨∃ g cap A,v= .slice (some ⟨g,0,none⟩) C.length cap∧B≤g∧w.heap[g]? =some (.cells A e (0,0))∧C.length≤cap∧cap≤maxLen∧A.size=cap∧A.toList.take C.length=C∧∀ x∈A.toList,ok x
theorem EO.G {e:TypeId} {ok:Value→Prop} {w C:World} {A:Nat} {v:Value} {D:List Value} (h:EO e ok w A v D) (g:Go.Proofs.YtfnkkkcojnffdaaGreatDoor.G w C):EO e ok C A v D:=by
 rcases h with h|⟨b,cap,B,e,h1,h2,h3⟩
 ·exact Or.inl h
 ·refine Or.inr ⟨b,cap,B,e,h1,?_,h3⟩;obtain⟨-,-,-,-,g5⟩:=g;exact(g5 b (heap_lt h2)).trans h2
theorem EO.at {e:TypeId} {ok:Value→Prop} {w:World} {A g n c i:Nat} {C:List Value} {x:Value} (h:EO e ok w A (.slice (some ⟨g,0,none⟩) n c) C) (hi:C[i]? =some x):w.cell? ⟨g,i,none⟩=some x:=by
 rcases h with ⟨h,-⟩|⟨b,cap,D,e,h1,h2,h3,J,K,h6,L⟩
 ·cases h
 ·injection e with B F I;injection B with B;injection B with B;subst B;have E:=(aQ.1 hi).1;rw[← h6,cU,if_pos E] at hi;simp only[World.cell?,h2];simpa using hi
/-- What an append leaves standing: all; or all but one block, of whose cells something is known. -/
def Aft (ok:Value→Prop) (w A:World):Prop:=G w A∨∃ g l,Rec w g l∧(∀ x∈l,ok x)∧(∀ i k,i≠g→A.cell? ⟨i,k,none⟩=w.cell? ⟨i,k,none⟩)∧w.heap.size≤A.heap.size
theorem eo_app {T e:TypeId} {ok:Value→Prop} {i:TypeInfo} {z x:Value} (W:Tryz.prog.underlying T=some (.slice e)) (hi:Tryz.prog.info? e=some i) (hz:i.zero=some z) (R:i.size=1) (Y:i.bytes≤16) (N:z.cells=#[z]) (s:ok z) (hx:ok x) (U:x.oneCell'=true)
  (w:World) (C:Nat) (v:Value) (B:List Value) (h:EO e ok w C v B) (hb:C≤w.heap.size) (a:Addr) (M:w.cell? a=some x) (am:B.length≤1000000):
  ∃ v' S,(Builtin.append_ #[T,T] T #[v,.slice (some a) 1 1]).run Tryz.prog w= .ok v' S∧EO e ok S C v' (B++[x])∧Aft ok w S∧∀ w0:World,w0.heap.size≤C→G w0 w→G w0 S:=by
 have X:a.add 0=a:=by unfold Addr.add;simp
 have D:∀ j u,([x]:List Value)[j]? =some u→w.cell? (a.add j)=some u:=by
  intro j u hu;rcases j with _|j
  ·rw[X,M];simpa using hu
  ·simp at hu
 have m:([x]:List Value).length=1*i.size:=by rw[R];rfl
 have o:maxLen=9223372036854775807:=rfl;have K:∀ k:Nat,k≤1000001→k*i.bytes≤16000016:=fun k d=>cj d Y;have F:∀ (old:Nat),(∀ y∈B,ok y)→EO e ok (w.drew.alloc (.cells (B.toArray++([x]:List Value).toArray++Builtin.zeroCells z.cells (grownCap w (B.length+1) old e-(B.length+1))) e)) C (.slice (some ⟨w.heap.size,0,none⟩) (B.length+1) (grownCap w (B.length+1) old e)) (B++[x]):=by
  intro old al;have Z:=grownCap_ge w (B.length+1) old e;refine Or.inr ⟨w.heap.size,_,_,by rw[ag];rfl,hb,heap_alloc_new w.drew _,by rw[ag];exact Z,grownCap_le_maxLen w _ old _ (by rw[o];omega),?_,?_,?_⟩
  ·rw[N];simp only[Array.size_append,List.size_toArray,size_zeroCells,cZ];show B.length+1+_*1=_;omega
  ·simp only[Array.toList_append];exact List.take_left' eO
  ·intro y A;simp only[Array.toList_append,cL] at A;rcases A with (A|A)|A
   ·exact al y A
   ·rw[cF] at A;rw[A];exact hx
   ·rw[N] at A;simp only[Builtin.zeroCells,Array.toList_map,b6] at A;obtain⟨k,-,rfl⟩:=A;rw[show k%(#[z]:Array Value).size=0 from Nat.mod_one k];exact s
 rcases h with ⟨rfl,rfl⟩|⟨g,cap,I,rfl,h1,h2,h3,h4,h5,h6,O⟩
 ·have J:=run_append_nil (P:=Tryz.prog) w T T e i _ W hi hz a 1 1 [x] m D dT dT (by have:=K 1 dT;omega);have hn:=F 0 (by intro y A;cases A);simp only[cW,az,cK,Array.empty_append] at hn J;exact⟨_,_,J,hn,Or.inl ((af _).drew.alloc _),fun _ _ h=>h.drew.alloc _⟩
 ·by_cases E:B.length+1≤cap
  ·have J:=run_append_room (P:=Tryz.prog) w T T e i W hi g B.length cap I h2 a 1 1 [x] m D (by
    intro u hu;rw[cF] at hu;rw[hu];exact U) E (by rw[R,h5];show _≤_;simp;omega)
   rw[R,bw] at J;have L:Rec w g I.toList:=⟨e,by simpa using h2⟩;refine⟨_,_,J,Or.inr ⟨g,cap,_,by rw[ag];rfl,h1,setRow_heap w g I _ _ _ h2,by rw[ag];exact E,h4,?_,?_,?_⟩,?_,?_⟩
   ·simp only[List.size_toArray,ag,aR,bO,Array.length_toList,cZ];omega
   ·rw[h6];exact List.take_left' eO
   ·intro y A;simp only[cL] at A;rcases A with (A|A)|A
    ·exact O y (dE A)
    ·rw[cF] at A;rw[A];exact hx
    ·exact O y (List.mem_of_mem_drop A)
   ·exact Or.inr ⟨g,_,L,O,fun j k c=>World.cell?_of_block (setRow_other w g j _ c),by simp⟩
   ·intro w0 h0 ⟨g1,g2,g3,g4,g5⟩;refine⟨g1,g2,g3,by simpa using g4,fun k d=> ?_⟩;rw[setRow_other w g k _ dT];exact g5 k d
  ·have holds:∀ j u,B[j]? =some u→w.cell? ((⟨g,0,none⟩:Addr).add j)=some u:=by
    intro j u hu;have c:j<B.length:=(aQ.1 hu).1;rw[Lib.add_plain,az];simp only[World.cell?,h2];rw[← h6,cU,if_pos c] at hu;simpa using hu
   have J:=run_append_grow (P:=Tryz.prog) w T T e i _ W hi hz ⟨g,0,none⟩ B.length cap B (by rw[R,bw]) holds a 1 1 [x] m D dT dT (growslice_fits dT (by have:=K (B.length+1) dT;omega));exact⟨_,_,J,F cap (fun y A=>O y (by rw[← h6] at A;exact dE A)),Or.inl ((af _).drew.alloc _),fun _ _ h=>h.drew.alloc _⟩
/-- The text of a number. -/
def dtx (n:Nat):Value:= .string ⟨(Lib.decDigits n).toArray⟩
/-- A slice of texts of numbers of our own. -/
def SO (w:World) (A:Nat) (v:Value) (l:List Nat):Prop:=EO 9 fk w A v (l.map dtx)
theorem SO.G {w B:World} {A:Nat} {v:Value} {l:List Nat} (h:SO w A v l) (g:Go.Proofs.YtfnkkkcojnffdaaGreatDoor.G w B):SO B A v l:=EO.G h g
theorem q1R (w:World) (A:Nat) (v:Value) (l:List Nat) (x:Nat) (h:SO w A v l) (hb:A≤w.heap.size) (a:Addr) (D:w.cell? a=some (dtx x)) (J:l.length≤100000):
  ∃ E C,(Builtin.append_ #[123,123] 123 #[v,.slice (some a) 1 1]).run Tryz.prog w= .ok E C∧SO C A E (l++[x])∧(∀ u n,Num w u n→Num C u n)∧∀ w0:World,w0.heap.size≤A→G w0 w→G w0 C:=by
 obtain⟨i,hi,B⟩:=bI.1 (show (Tryz.prog.info? 9).map (fun i=>(i.zero,i.size,i.bytes))=some (some (.string .empty),1,16) by kernel_rfl);simp only[Prod.mk.injEq] at B;obtain⟨E,C,h1,h2,h3,K⟩:=eo_app (T:=123) (ok:=fk) (x:=dtx x) Tryz.underlying123 hi B.1 B.2.1 (by rw[B.2.2];omega) rfl trivial trivial rfl w A v (l.map dtx) h hb a D (by rw[cu];omega);refine⟨E,C,h1,by unfold SO;rw[List.map_append];exact h2,?_,K⟩;rcases h3 with g|⟨g,L,N,F,M,I⟩
 ·exact fun _ _ h=>h.G g
 ·exact fun u n hu=>iM hu N F _ M I
/-- What the first loop has done. -/
def Cut (n:Nat) (A:Nat) (w:World) (va C:Value) (wr:World):Prop:=
 ∃ (a:Nat) (l:List Nat),Num wr va a∧SO wr A C l∧lots l+10000000000000000000^l.length*a=n∧(∀ x∈l,x<10000000000000000000)∧((l=[]∧0<a)∨∃ B x,l=B++[x]∧(a=0→0<x))∧G w wr
theorem pC {n a:Nat} {l:List Nat} (h:lots l+10000000000000000000^l.length*a=n):lots (l++[a%10000000000000000000])+10000000000000000000^(l++[a%10000000000000000000]).length*(a/10000000000000000000)=n:=by
 rw[iL,ag,cZ,bF,aj,bR,← ax,bt (a%_),bY,h]
theorem nr {n a K:Nat} {l:List Nat} (h:lots l+10000000000000000000^l.length*a=n) (A:0<a) (B:n<2^(64*K)):l.length<64*K:=by
 have h1:2^l.length≤10000000000000000000^l.length:=dI dT _;have h2:10000000000000000000^l.length≤10000000000000000000^l.length*a:=Nat.le_mul_of_pos_right _ A;exact(aY dT).1 (show 2^l.length<2^(64*K) by omega)
theorem kF:∀ k,Lib.repeatL [48] k=List.replicate k 48:=by
 intro k
 induction k with
 |zero=>rfl
 |succ k A=>rw[Lib.repeatL,A,List.replicate_succ];rfl
theorem pZ:∀ (l:List Nat) (i:Nat),(∃ A x,l=A++[x]∧0<x)→i<l.length→0<lots (l.drop i):=by
 rintro l i ⟨A,x,rfl,B⟩ hi;rw[ag,cZ] at hi;rw[List.drop_append_of_le_length dT,iL];have:=bT (Nat.pow_pos (n:=(A.drop i).length) (show 0<10000000000000000000 by omega)) B;omega
theorem jL {n K:Nat} (A:n<2^(64*K)) (B:1≤K):(Lib.decDigits n).length≤64*K:=by
 refine dec_len_le dT (ad A (dI dT _))
theorem q0D (l:List Nat) (i:Nat):lots (l.drop i)≤lots l:=by
 induction l generalizing i with
 |nil=>simp
 |cons x l A=>
  cases i with
  |zero=>exact ay _
  |succ i=>
   have:=A i;rw[List.drop_succ_cons,lots];omega
/-- What stands of the parts behind the first loop: their cells. -/
def Parts (g:Nat) (l:List Nat) (w:World):Prop:=g<w.heap.size∧∀ i,i<l.length→w.cell? ⟨g,i,none⟩=some (dtx (l.getD i 0))
theorem Parts.G {w A:World} {g:Nat} {l:List Nat} (h:Parts g l w) (k:G w A):Parts g l A:=
 ⟨ad h.1 k.size,fun i hi=>k.cell h.1 (h.2 i hi)⟩
/-- What the second loop has done. -/
def Wrote (l:List Nat) (b:Nat) (w:World) (A:Value) (wr:World):Prop:=
 ∃ j:Nat,j<l.length∧A= .int .i64 ((j:Int)-1)∧Bld wr b (Lib.decDigits (lots (l.drop j)))∧G w wr
set_option maxRecDepth 10000 in
theorem lX (w:World) (va:Value) (n K:Nat) (hK:K≤400) (ii:1≤K) (ha:Num w va n) (hn:n<2^(64*K)) (hT:P10 w):
  Calls Tryz.prog 47 #[va] w fun e w'=>e= .returned (dtx n)∧G w w':=by
 have HA:Hid (Num w va n):=ha;obtain⟨l,hl,fv,ci⟩:=ha;obtain⟨p,c,rfl,-,-⟩:=ei hl;by_cases h0:l.length=0
 ·have J:l=[]:=aC h0;have o:n=0:=by rw[← ci,J];rfl
  have hd:dtx 0= .string ⟨#[48]⟩:=by rw[dtx,show Lib.decDigits 0=[48] from by rw[Lib.decDigits];rfl]
  rw[h0];subst o;clear hl fv ci h0 J HA hT hn;go_enter Tryz.func47,Tryz.ntmps47;go_wp2_with fail;go_ret;exact⟨by rw[hd];rfl,af _⟩
 ·have o:0<n:=by
   rcases bK n with h|h
   ·exfalso;have h1:=fp HA.out;obtain⟨p2,j2,q2,e,hk,-⟩:=h1;injection e with x1 x2 x3;omega
   ·exact h
  have kq:((l.length:Int)==0)=false:=by simp;exact fun e=>h0 (by rw[e];rfl)
  generalize l.length=k at *;have HT:Hid (∀ D,G w D→P10 D):=fun D g=>hT.G g;have kv:Hid (0<n):=o;have HN:Hid (n<2^(64*K)):=hn;have U:Hid (Cut n w.heap.size w (.slice p k c) (.slice none 0 0) w):=⟨n,[],HA.out,Or.inl ⟨rfl,rfl⟩,by simp [lots],by simp,Or.inl ⟨rfl,o⟩,af _⟩;clear hT o hn h0 hl fv ci HA;go_enter Tryz.func47,Tryz.ntmps47;go_wp2_with fail
  go_loopw [0,3,4] (fun va vp vw wr=>Cut n w.heap.size w va vp wr) (fun va _ _ wr=>numV wr va)
  case atStart=>exact U.out
  case round=>
   clear U kq;obtain⟨a,A,cn,O,B,N,M,hG⟩:=hrel;have HA:Hid (Num wr u0 a):=cn;have cl:numV wr u0=a:=fm cn;obtain⟨la,hh,ep,ht⟩:=cn;obtain⟨pa,ca,rfl,-,-⟩:=ei hh;have al:la.length=0↔a=0:=by
    obtain⟨p2,j2,q2,e,hk,-⟩:=fp HA.out;injection e with x1 x2 x3;rw[x2];exact hk
   generalize la.length=j at *;clear hh ep ht;by_cases hj:j=0
   ·obtain rfl:a=0:=al.1 hj;obtain⟨C,kr⟩:∃ C,C=wr:=⟨wr,rfl⟩;subst kr;subst hj;clear HA cl al;rw[bm,aP] at B;obtain⟨l0,x,J,hx⟩:∃ l0 x,A=l0++[x]∧0<x:=by
     rcases M with ⟨-,h⟩|⟨l0,x,h,hx⟩
     ·omega
     ·exact⟨l0,x,h,hx rfl⟩
    have bu:=fun i hi=>pZ A i ⟨l0,x,J,hx⟩ hi;have m:A.length=l0.length+1:=by rw[J,ag];rfl
    have ce:A.length≤64*K:=by
     have h1:lots l0+10000000000000000000^l0.length*x=n:=by rw[← iL,← J];exact B
     have:=nr h1 hx HN.out;omega
    have s:=O;rcases O with ⟨-,hz⟩|⟨g,cap,kw,e,hg,em,fs,-⟩
    ·rw[List.map_eq_nil_iff.1 hz] at m;exact absurd m eO
    rw[cu] at e;subst e;have HP:Hid (Parts g A C):=⟨heap_lt em,fun i hi=>s.at (by rw[db,ab,aB hi];rfl)⟩;clear em hg M J s;generalize hq:l0.length=q at *;have E:Hid (A.length=q+1):=m;have dk:=hi9 bu;have R:Hid (lots A=n):=B;have cr:=hi9 N;have lg:(q:Int)<30000:=by omega
    rw[m];clear hx hq bu B N m fs ce;have ek:(C.alloc (.cells #[.pointer none,.slice none 0 0] 130)).heap[C.heap.size]? =some (.cells #[.pointer none,.slice none 0 0] 130 (0,0)):=by simp only[World.alloc];exact cQ
    have HD:Hid (∀ i,i<q+1→(Lib.decDigits (A.getD i 0)).length≤19∧A.getD i 0<10000000000000000000):=fun i hi=>by
     have h1:A.getD i 0<10000000000000000000:=by
      have d:i<A.length:=by rw[E.out];exact hi
      rw[ab,aB d];exact cr.out _ (List.getElem_mem d)
     exact⟨dec_len_le dT (by simpa using h1),h1⟩
    have dq:Hid _:=mc (C.alloc (.cells #[.pointer none,.slice none 0 0] 130)) C.heap.size (Lib.decDigits (A.getD q 0)) ek (by have:=(HD.out q dT).1;omega);have g1:G C (C.alloc (.cells #[.pointer none,.slice none 0 0] 130)):=(af _).alloc _;have hc:(C.alloc (.cells #[.pointer none,.slice none 0 0] 130)).cell? ⟨g,q,none⟩=some (.string ⟨(Lib.decDigits (A.getD q 0)).toArray⟩):=Lib.cell?_alloc_some _ (HP.out.2 q (by rw[E.out];omega));clear ek;go_wp2_with fail;refine dS dq.out ?_;intro e w4 hs;obtain⟨⟨v4,rfl⟩,hB,bi⟩:=hs;have ho:Wrote A C.heap.size C (.int .i64 ((q:Int)+1-2)) w4:=⟨q,by rw[E.out];omega,congrArg (Value.int .i64) dT,by
     have e:lots (A.drop q)=A.getD q 0:=by
      have d:q<A.length:=by rw[E.out];omega
      rw[dN d,aL (by rw[E.out];omega),lots,lots,bm,aP,ab,aB d];rfl
     rw[e];exact hB,Below.trans g1 bi⟩
    have HS:=hi9 ho;clear ho hc dq g1 hB bi;go_wp2_with fail
    go_loopw [6] (fun vi w5=>Wrote A C.heap.size C vi w5) (fun vi _=>(intOf vi+1).toNat)
    case atStart=>exact HS.out
    case round=>
     clear HS;obtain⟨jj,kb,rfl,hB,W⟩:=hrel;rw[E.out] at kb;have eb:=HP.out.G W;rcases jj with _|i
     ·have U:=hi9 (Tryz.Builder_String_any_f C.heap.size C.heap.size _ wr (Or.inr hB) W.size);rw[List.drop_zero,R.out] at U;have G5:=aa hG W;have kk:=G5.size;clear hB W eb;go_wp2_with fail;refine dS U.out ?_;rintro e F ⟨rfl,-,io⟩;have G6:G w F:=Below.trans G5 (Below.mono io hG.size);go_wp2_with fail;go_ret;exact⟨rfl,G6⟩
     ·have hc:=eb.2 i (by rw[E.out];omega);obtain⟨ga,bl⟩:=HD.out i dT;have hp:=oJ A i (A.getD i 0) (by rw[ab,aB (by rw[E.out];omega)];rfl) bl (dk.out (i+1) (by rw[E.out];omega));have hle:=q0D A (i+1);have it:(Lib.decDigits (lots (A.drop (i+1)))).length≤64*K:=jL (aG hle (by rw[R.out];exact HN.out)) ii;have kk:(⟨(Lib.decDigits (A.getD i 0)).toArray⟩:ByteArray).size=(Lib.decDigits (A.getD i 0)).length:=by show (Lib.decDigits (A.getD i 0)).toArray.size=_;simp
      have an:Hid (∀ D,Calls Tryz.prog 107 #[.string ⟨#[48]⟩,.int .i64 (19-((Lib.decDigits (A.getD i 0)).length:Int))] D fun e w'=>e= .returned (.string ⟨(List.replicate (19-(Lib.decDigits (A.getD i 0)).length) 48).toArray⟩)∧G D w'):=fun D=>by
       have h:=Tryz.strings_Repeat ⟨#[48]⟩ (19-(Lib.decDigits (A.getD i 0)).length) D dT (by show 1*_≤_;omega);rw[show (((19-(Lib.decDigits (A.getD i 0)).length:Nat)):Int)=19-((Lib.decDigits (A.getD i 0)).length:Int) from by omega,show (⟨#[48]⟩:ByteArray).data.toList=[48] from rfl,kF] at h;exact h
      have cs:Hid (Bld wr C.heap.size (Lib.decDigits (lots (A.drop (i+1))))):=hB;have dl:Hid (∀ D,G wr D→_):=fun D k=>iC D C.heap.size (Lib.decDigits (lots (A.drop (i+1)))) (List.replicate (19-(Lib.decDigits (A.getD i 0)).length) 48) (cs.out.G k) (by rw[List.length_replicate];omega);have cb:Hid (∀ D,Bld D C.heap.size (Lib.decDigits (lots (A.drop (i+1)))++List.replicate (19-(Lib.decDigits (A.getD i 0)).length) 48)→_):=fun D h=>iC D C.heap.size _ (Lib.decDigits (A.getD i 0)) h (by rw[ag,List.length_replicate];omega);have hL:((Lib.decDigits (A.getD i 0)).length:Int)≤19:=by omega
      have jp:wr.cell? ⟨g,i,none⟩=some (.string ⟨(Lib.decDigits (A.getD i 0)).toArray⟩):=hc;have cx:Hid (∀ D,G C D→D.cell? ⟨g,i,none⟩=some (.string ⟨(Lib.decDigits (A.getD i 0)).toArray⟩)):=fun D k=>k.cell HP.out.1 (HP.out.2 i (by rw[E.out];omega));rw[← hp] at cb;have jx:((i+1:Nat):Int)-1=i:=by omega
      rw[jx];have lb:(i:Int)<30000:=by omega
      have I:Hid (∀ F,Bld F C.heap.size (Lib.decDigits (lots (A.drop i)))→G C F→Wrote A C.heap.size C (.int .i64 ((i:Int)-1)) F):=fun F h k=>⟨i,by rw[E.out];omega,rfl,h,k⟩;generalize lots (A.drop i)=Q0 at *;generalize lots (A.drop (i+1))=Q at *;clear hc ga bl hp hle it hB cs;generalize hZ:(⟨(List.replicate (19-(Lib.decDigits (A.getD i 0)).length) 48).toArray⟩:ByteArray)=Z at *;generalize hS:(⟨(Lib.decDigits (A.getD i 0)).toArray⟩:ByteArray)=S at *;generalize (Lib.decDigits (A.getD i 0)).length=L at *;go_wp2_with fail;refine dS (an.out _) ?_;rintro e w5 ⟨rfl,g5⟩;have ao:Hid _:=dl.out w5 g5;have G5:G C w5:=aa W g5;clear an dl jp;go_wp2_with fail;refine dS ao.out ?_;intro e F hs;obtain⟨⟨v6,rfl⟩,dr,X⟩:=hs;have G6:G C F:=Below.trans G5 X;have ks:=cx.out F G6;have ap:Hid _:=cb.out F dr;clear ao dr X cb cx;go_wp2_with fail;refine dS ap.out ?_;intro e w7 hs;obtain⟨⟨v7,rfl⟩,ds,Y⟩:=hs;have G7:G C w7:=Below.trans G6 Y;have hR:=I.out w7 ds G7;clear ap ds Y I;go_wp2_with fail
      go_roundw
      case rel=>exact hR
      case measure=>simp only[intOf];omega
   ·have cd:0<a:=by
     rcases bK a with h|h
     ·exact absurd (al.2 h) hj
     ·exact h
    have lc:decide (0<j)=true:=decide_eq_true dT;have gg:=nr B cd HN.out;have ec:a<2^(64*K):=by
     refine aG ?_ HN.out;rw[← B];exact ch (Nat.le_mul_of_pos_left _ (Nat.pow_pos dT)) (dG _ _)
    have HD:=hi9 (fj wr (.slice pa j ca) a 10000000000000000000 K dT HA.out ec dT dT);have hr:a%10000000000000000000<10000000000000000000:=aU _ dT;have HF:Hid (∀ D,G w D→_):=fun D k=>q0p D (a%10000000000000000000) dT (HT.out D k);have bn:(a/10000000000000000000=0→0<a%10000000000000000000):=by omega
    have gm:a/10000000000000000000<a:=Nat.div_lt_self cd dT;have I:Hid (∀ F v vp,G w F→Num F v (a/10000000000000000000)→SO F w.heap.size vp (A++[a%10000000000000000000])→Cut n w.heap.size w v vp F):=fun F v vp k h1 h2=>⟨_,_,h1,h2,pC B,by
     intro y hy;rcases cL.1 hy with hy|hy
     ·exact N y hy
     ·rw[cF] at hy;rw[hy];exact hr,Or.inr ⟨A,_,rfl,bn⟩,k⟩
    have ia:=hi9 gm;have ih:=hi9 cl;have am:Hid (SO wr w.heap.size u3 A):=O;have hw:Hid (A.length≤64*K):=cy gg;clear HA al hr bn gm cl O B N M gg ec cd;generalize hq:a/10000000000000000000=q at *;generalize hr:a%10000000000000000000=r at *;clear hq hr;go_wp2_with fail;refine dS HD.out ?_;intro e w4 hs;obtain⟨v,rfl,g4,hv⟩:=hs;have HV:Hid (Num w4 v q):=hv;have cz:Hid _:=HF.out w4 (aa hG g4);clear hv HF HD;go_wp2_with fail;refine dS cz.out ?_;rintro e w5 ⟨rfl,g5⟩;have cc:=aa g4 g5;have bv:(w5.alloc (.cells #[.string ⟨(Lib.decDigits r).toArray⟩] 9)).cell? ⟨w5.heap.size,0,none⟩=some (dtx r):=by simp [go_sem];rfl
    have gA:G w5 (w5.alloc (.cells #[.string ⟨(Lib.decDigits r).toArray⟩] 9)):=(af _).alloc _;obtain⟨v6,F,hf,hm,bq,ea⟩:=q1R _ w.heap.size u3 A r (am.out.G (aa cc gA)) (G.size (aa hG (aa cc gA))) ⟨w5.heap.size,0,none⟩ bv (by have:=hw.out;omega);have bz:Num F v q:=bq _ _ (HV.out.G (aa g5 gA));have G6:G w F:=ea w (ay _) (aa hG (aa cc gA));have hrel:=I.out F v v6 G6 bz hm;have he:numV F v<a:=by rw[fm bz];exact ia.out
    have ib:=hi9 he;clear cz am I HV bz hm bq ea bv he;go_wp2_with (at_builtin;refine wpList_app _ rfl _ _ 123 rfl _ _ rfl rfl hf ?_);go_wp2_with fail
    go_roundw
    case rel=>exact hrel
    case measure=>rw[ih.out];exact ib.out
/-- The text of a fraction. -/
def qtx (q:Rat):List UInt8:=(if q.num<0 then [45] else [])++Lib.decDigits q.num.natAbs++(if q.den=1 then [] else 47::Lib.decDigits q.den)
theorem bytes_app (a b:List UInt8):(⟨a.toArray⟩++⟨b.toArray⟩:ByteArray)=⟨(a++b).toArray⟩:=by
 apply ByteArray.ext;simp
theorem txt_size (l:List UInt8):(⟨l.toArray⟩:ByteArray).size=l.length:=by show l.toArray.size=_;simp
set_option maxRecDepth 10000 in
theorem nK (w:World) (v:Value) (q:Rat) (K:Nat) (m:K≤400) (B:1≤K) (h:QIs w v q) (hb:QB q K) (W:P10 w):
  Calls Tryz.prog 10 #[v] w fun e J=>e= .returned (.string ⟨(qtx q).toArray⟩)∧G w J:=by
 obtain⟨a,k,c,U,D,c',rfl,h1,h2⟩:=h;have i:Hid (∀ A,G w A→Calls Tryz.prog 47 #[.slice a k c] A fun e J=>e= .returned (.string ⟨(Lib.decDigits q.num.natAbs).toArray⟩)∧G A J):=fun A g=>lX A _ _ K m B (h1.G g) hb.1 (W.G g);have H2:Hid (∀ A,G w A→q.den≠1→Calls Tryz.prog 47 #[.slice U D c'] A fun e J=>e= .returned (.string ⟨(Lib.decDigits q.den).toArray⟩)∧G A J):=fun A g C=>by
  have h:=lX A (.slice U D c') q.den K m B (by have h3:=h2.G g;unfold fQ at h3;rw[if_neg C] at h3;exact h3) hb.2 (W.G g);exact h
 have E:D=0↔q.den=1:=by
  obtain⟨p2,j2,q2,e,E,-⟩:=fp h2;injection e with x1 x2 x3;rw[x2,E];unfold fQ;have:=q.den_nz;split<;>omega
 have F:decide (0<D)=decide (q.den≠1):=by
  by_cases e:q.den=1
  ·rw[decide_eq_false (by have:=E.2 e;omega),decide_eq_false (by simpa using e)]
  ·rw[decide_eq_true (by have:=fun h=>e (E.1 h);omega),decide_eq_true e]
 have hX:(⟨(Lib.decDigits q.num.natAbs).toArray⟩:ByteArray).size≤25600:=by have:=jL hb.1 B;rw[txt_size];omega
 have hY:(⟨(Lib.decDigits q.den).toArray⟩:ByteArray).size≤25600:=by have:=jL hb.2 B;rw[txt_size];omega
 have HQ:Hid (∀ x y,x=(if q.num<0 then (⟨#[45]⟩++⟨(Lib.decDigits q.num.natAbs).toArray⟩:ByteArray) else ⟨(Lib.decDigits q.num.natAbs).toArray⟩)→y=(if q.den=1 then x else x++(⟨#[47]⟩++⟨(Lib.decDigits q.den).toArray⟩:ByteArray))→y=⟨(qtx q).toArray⟩):=by
  rintro x y rfl rfl;rw[show (⟨#[45]⟩:ByteArray)=⟨[45].toArray⟩ from rfl,show (⟨#[47]⟩:ByteArray)=⟨[47].toArray⟩ from rfl];unfold qtx;split<;>split<;>simp only[bytes_app,cK,bZ,List.cons_append]
 generalize o:decide (q.num<0)=s at *;have j:=hi9 o;clear h1 h2 hb W E o;generalize (⟨(Lib.decDigits q.num.natAbs).toArray⟩:ByteArray)=X at *;generalize (⟨(Lib.decDigits q.den).toArray⟩:ByteArray)=Y at *;go_enter Tryz.func10,Tryz.ntmps10;go_wp2_with fail;obtain⟨w0,I,g0,ap,R0⟩:=eD w [.bool s,.slice a k c,.slice U D c'] 29;rw[I];clear I;refine Calls.mono (P:=Tryz.prog) (i.out w0 g0) ?_;rintro e A ⟨rfl,g1⟩;obtain⟨L,M,N,O,R,S⟩:=ev R0 (g1);have al:¬ 9223372036854775807<(⟨#[45]⟩:ByteArray).size+X.size:=by rw[show (⟨#[45]⟩:ByteArray).size=1 from rfl];omega
 have am:¬ 9223372036854775807<(⟨#[47]⟩:ByteArray).size+Y.size:=by rw[show (⟨#[47]⟩:ByteArray).size=1 from rfl];omega
 have an:¬ 9223372036854775807<X.size+(⟨#[47]⟩++Y:ByteArray).size:=by rw[ByteArray.size_append,show (⟨#[47]⟩:ByteArray).size=1 from rfl];omega
 have ao:¬ 9223372036854775807<(⟨#[45]⟩++X:ByteArray).size+(⟨#[47]⟩++Y:ByteArray).size:=by rw[ByteArray.size_append,ByteArray.size_append,show (⟨#[45]⟩:ByteArray).size=1 from rfl,show (⟨#[47]⟩:ByteArray).size=1 from rfl];omega
 clear i hX hY;have d:(q.den=1∧decide (0<D)=false)∨(q.den≠1∧decide (0<D)=true):=by
  rw[F];by_cases e:q.den=1
  ·exact Or.inl ⟨e,decide_eq_false (by simpa using e)⟩
  ·exact Or.inr ⟨e,decide_eq_true e⟩
 clear F;rcases d with ⟨C,Z⟩|⟨C,Z⟩
 all_goals
  cases s
 all_goals
  go_wp2_with fail
  try
   refine Calls.mono (P:=Tryz.prog) (H2.out A (aa g0 g1) C) ?_;rintro e w2 ⟨rfl,g2⟩;go_wp2_with fail
  go_ret;refine⟨congrArg (fun b=>Ending.returned (Value.string b)) (HQ.out _ _ rfl ?_),by first|exact aa g0 (aa g1 g2)|exact aa g0 g1⟩
  first
  |rw[if_pos (of_decide_eq_true j.out)]
   first|rw[if_pos C]|rw[if_neg C]
  |rw[if_neg (of_decide_eq_false j.out)]
   first|rw[if_pos C]|rw[if_neg C]
end Go.Proofs.YtfnkkkcojnffdaaGreatDoor.EN
namespace Go.Proofs.YtfnkkkcojnffdaaGreatDoor
open Go.ChangeShapes Go.WideShapes Go.ChangeAt Go.RowKit
open BN
/-- No word of 32 bits. -/
def noU4 (x:Value):Prop:=∀ m,x≠ .int .u32 m
theorem mJ {w:World} {v:Value} {n b:Nat} {l:List Value} (h:Num w v n) (r:Rec w b l) (M:∀ x∈l,noU4 x):∀ A:World,(∀ i k,i≠b→A.cell? ⟨i,k,none⟩=w.cell? ⟨i,k,none⟩)→w.heap.size≤A.heap.size→Num A v n:=by
 intro A L N;obtain⟨m,E,D,hv⟩:=h;refine⟨m,?_,D,hv⟩;rcases Sl.cases E with ⟨rfl,a,c,rfl⟩|⟨F,I,o,c,rfl,C,hb,K⟩
 ·exact⟨E.1,Or.inl ⟨rfl,a,c,rfl⟩⟩
 ·have B:I≠b:=by
   intro e;subst e;have J:=K 0 (bD.2 F);rw[r.cell] at J;exact M _ (bH J) _ rfl
  exact⟨E.1,Or.inr ⟨I,o,c,rfl,C,by omega,fun i hi=>by rw[L _ _ B];exact K i hi⟩⟩
/-- A byte as a cell. -/
def btv (b:UInt8):Value:= .int .u8 (b.toNat:Int)
/-- A slice of bytes of our own. -/
def BO (w:World) (A:Nat) (v:Value) (l:List UInt8):Prop:=EN.EO 5 noU4 w A v (l.map btv)
theorem BO.G {w B:World} {A:Nat} {v:Value} {l:List UInt8} (h:BO w A v l) (g:Go.Proofs.YtfnkkkcojnffdaaGreatDoor.G w B):BO B A v l:=EN.EO.G h g
theorem pj (w:World) (A:Nat) (v:Value) (l:List UInt8) (x:UInt8) (h:BO w A v l) (hb:A≤w.heap.size) (a:Addr) (D:w.cell? a=some (btv x)) (J:l.length≤100000):
  ∃ E C,(Builtin.append_ #[128,128] 128 #[v,.slice (some a) 1 1]).run Tryz.prog w= .ok E C∧BO C A E (l++[x])∧(∀ u n,Num w u n→Num C u n)∧∀ w0:World,w0.heap.size≤A→G w0 w→G w0 C:=by
 obtain⟨i,hi,B⟩:=bI.1 (show (Tryz.prog.info? 5).map (fun i=>(i.zero,i.size,i.bytes))=some (some (.int .u8 0),1,1) by kernel_rfl);simp only[Prod.mk.injEq] at B;obtain⟨E,C,h1,h2,h3,K⟩:=EN.eo_app (T:=128) (ok:=noU4) (x:=btv x) Tryz.underlying128 hi B.1 B.2.1 (by rw[B.2.2];omega) rfl (fun m e=>by cases e) (fun m e=>by cases e) rfl w A v (l.map btv) h hb a D (by rw[cu];omega);refine⟨E,C,h1,by unfold BO;rw[List.map_append];exact h2,?_,K⟩;rcases h3 with g|⟨g,L,N,F,M,I⟩
 ·exact fun _ _ h=>h.G g
 ·exact fun u n hu=>mJ hu N F _ M I
/-- The text of a whole number. -/
def ztx (s:Int):List UInt8:=(if s<0 then [45] else [])++Lib.decDigits s.natAbs
/-- What the first loop has done. -/
def Dig (n:Nat) (w:World) (A va:Value) (wr:World):Prop:=
 ∃ (a:Nat) (l:List UInt8),Num wr va a∧BO wr w.heap.size A l∧a≤n∧l.length≤(Lib.decDigits n).length∧(if a=0 then Lib.decDigits n=l.reverse else Lib.decDigits n=Lib.decDigits a++l.reverse)∧G w wr
theorem pD {n a:Nat} {l:List UInt8} (A:0<a) (h:Lib.decDigits n=Lib.decDigits a++l.reverse):
  (if a/10=0 then Lib.decDigits n=(l++[UInt8.ofNat (48+a%10)]).reverse else Lib.decDigits n=Lib.decDigits (a/10)++(l++[UInt8.ofNat (48+a%10)]).reverse)∧(l++[UInt8.ofNat (48+a%10)]).length≤(Lib.decDigits n).length:=by
 have key:(if a/10=0 then Lib.decDigits n=(l++[UInt8.ofNat (48+a%10)]).reverse else Lib.decDigits n=Lib.decDigits (a/10)++(l++[UInt8.ofNat (48+a%10)]).reverse):=by
  rw[h,List.reverse_append,List.reverse_singleton];split
  ·rw[Lib.decDigits_one dT,aM dT]
  ·rw[show Lib.decDigits a=Lib.decDigits (a/10)++[UInt8.ofNat (48+a%10)] from by rw[Lib.decDigits,dif_neg dT],cM]
 refine⟨key,?_⟩;split at key
 ·rw[key,List.length_reverse];exact ay _
 ·rw[key];simp only[ag,List.length_reverse];omega
/-- A row of bytes of our own that may be written. -/
def R8 (w:World) (g:Nat) (m:List UInt8):Prop:=∃ A:Array Value,w.heap[g]? =some (.cells A 5 (0,0))∧∀ (k:Nat) (x:UInt8),m[k]? =some x→A[k]? =some (btv x)
theorem R8.cell {w:World} {g k:Nat} {m:List UInt8} (h:R8 w g m) {x:UInt8} (B:m[k]? =some x):w.cell? ⟨g,k,none⟩=some (btv x):=by
 obtain⟨A,h1,h2⟩:=h;simp only[World.cell?,h1];exact h2 k x B
theorem R8.free {w:World} {g k:Nat} {m:List UInt8} (h:R8 w g m):w.frozen? ⟨g,k,none⟩=false:=by
 obtain⟨A,h1,-⟩:=h;simp [World.frozen?,h1]
theorem R8.set {w:World} {g k:Nat} {m:List UInt8} (h:R8 w g m) (x:UInt8):R8 (w.setCell ⟨g,k,none⟩ (btv x)) g (m.set k x):=by
 obtain⟨C,h1,h2⟩:=h;refine⟨C.setIfInBounds k (btv x),?_,fun j y A=> ?_⟩
 ·simp only[World.setCell,da,if_true,h1,cq];simp
 ·rw[List.getElem?_set] at A;rw[dH];by_cases B:k=j
  ·subst B;rw[if_pos rfl] at A ⊢;by_cases D:k<m.length
   ·rw[if_pos D] at A;have E:=(aT.1 (h2 k _ (aB D))).1;rw[if_pos E,bp A]
   ·rw[if_neg D] at A;cases A
  ·rw[if_neg B] at A ⊢;exact h2 j y A
/-- i bytes have been swapped with those at the other end. -/
def Swp (l m:List UInt8) (i:Nat):Prop:=m.length=l.length∧∀ k,k<l.length→m[k]? =if k<i∨l.length-i≤k then l[l.length-1-k]? else l[k]?
theorem qL (l:List UInt8):Swp l l 0:=⟨rfl,fun k A=>by rw[if_neg dT]⟩
theorem qK {l m:List UInt8} {i:Nat} {x y:UInt8} (h:Swp l m i) (hi:i<l.length-1-i) (F:m[i]? =some x) (I:m[l.length-1-i]? =some y):Swp l ((m.set i y).set (l.length-1-i) x) (i+1):=by
 obtain⟨h1,h2⟩:=h;refine⟨by simp [h1],fun k E=> ?_⟩;have C:=h2 i dT;rw[if_neg dT,F] at C;have D:=h2 (l.length-1-i) dT;rw[if_neg dT,I] at D;rw[List.getElem?_set,List.getElem?_set,av];by_cases c1:l.length-1-i=k
 ·rw[if_pos c1,if_pos dT,if_pos dT,C]
  congr 1;omega
 ·rw[if_neg c1];by_cases A:i=k
  ·rw[if_pos A,if_pos dT,if_pos dT,D]
   congr 1;omega
  ·rw[if_neg A,h2 k E];by_cases B:k<i∨l.length-i≤k
   ·rw[if_pos B,if_pos dT]
   ·rw[if_neg B,if_neg dT]
theorem q0T {l m:List UInt8} {i:Nat} (h:Swp l m i) (hi:¬ i<l.length-1-i):m=l.reverse:=by
 obtain⟨h1,h2⟩:=h;refine List.ext_getElem? fun k=> ?_;by_cases A:k<l.length
 ·rw[h2 k A,List.getElem?_reverse A];split
  ·rfl
  ·congr 1;omega
 ·rw[bj dT,bj (by simpa using A)]
/-- What the second loop has done. -/
def Rev (l:List UInt8) (g:Nat) (w:World) (A B:Value) (wr:World):Prop:=
 ∃ (i:Nat) (m:List UInt8),i≤l.length∧A= .int .i64 (i:Int)∧B= .int .i64 ((l.length:Int)-1-i)∧Swp l m i∧R8 wr g m∧G w wr
set_option maxRecDepth 10000 in
theorem q0y (w:World) (b o:Nat) (s:Int) (K:Nat) (hK:K≤800) (li:1≤K) (hs:s.natAbs<2^(32*K)) (hz:IntIs w b o s) (it:b<w.heap.size):
  Calls Tryz.prog 75 #[.pointer (some ⟨b,o,none⟩),.int .i64 10] w fun e w'=>e= .returned (.string ⟨(ztx s).toArray⟩)∧G w w':=by
 have bv:(Lib.decDigits s.natAbs).length≤32*K:=EN.dec_len_le dT (ad hs (dI dT _));obtain⟨ng,v,a,⟨c1,c2,-,-⟩,hv,h1,h2⟩:=hz;have ha:=gU h1;have HV:Hid (Num w v a):=hv;obtain⟨la,Z,E,I⟩:=hv;obtain⟨pa,ca,rfl,-,-⟩:=ei Z;have h0:a=0↔la.length=0:=by rw[← I,eX E,List.length_eq_zero_iff]
 generalize la.length=j at *;clear Z E I;by_cases hj:j=0
 ·have ap:a=0:=h0.2 hj;have hn:s=0:=by omega
  have hd:(⟨(ztx s).toArray⟩:ByteArray)=⟨#[48]⟩:=by rw[hn];unfold ztx;rw[if_neg dT,cK];show (⟨(Lib.decDigits 0).toArray⟩:ByteArray)=_;rw[Lib.decDigits];rfl
  subst hj;rw[hd];clear HV h0 h1 h2 ha ap hn hd bv hs;go_enter Tryz.func75,Tryz.ntmps75;go_wp2_with fail;go_ret;exact⟨rfl,af _⟩
 ·have t0:((j:Int)==0)=false:=by simp;omega
  have ap:0<a:=by have:=mt h0.1 hj;omega
  have an:Hid (ng=decide (s<0)):=by
   show ng=decide (s<0);rw[← h1];unfold sg;cases ng
   ·simp
   ·simp;omega
  have cd:a<2^(32*K):=by rw[ha];exact hs
  have ds:=hi9 (kK w (.slice pa j ca) a K dT HV.out cd);have dl:Hid (a<2^(32*K)):=cd;have HA:Hid (a=s.natAbs):=ha;have R:Hid (∀ k,k≤(Lib.decDigits a).length→k≤25600):=fun k hk=>by rw[ha] at hk;omega
  have dq:Hid (∀ w1,G w w1→w1.cell? ⟨b,o,none⟩=some (.bool ng)):=fun w1 g=>g.cell it c1;have dk:Hid (0<a):=ap;clear HV h0 h1 h2 ha bv hs ap cd;go_enter Tryz.func75,Tryz.ntmps75;go_wp2_with fail;refine Calls.mono (P:=Tryz.prog) ds.out ?_;intro e w1 hs;obtain⟨v1,rfl,g1,hm⟩:=hs;have c:Dig a w (.slice none 0 0) v1 w1:=⟨a,[],hm,Or.inl ⟨rfl,rfl⟩,ay _,bo _,by rw[if_neg (by have:=dk.out;omega)];simp,g1⟩;have U:=hi9 c;clear c ds hm g1 t0 c1 c2;go_wp2_with fail
  go_loopw [5,6,7] (fun vb va vr wr=>Dig a w vb va wr) (fun _ va _ wr=>numV wr va)
  case atStart=>exact U.out
  case round=>
   clear U;obtain⟨x,l,cs,D,bu,bn,A,hG⟩:=hrel;have cr:numV wr u6=x:=fm cs;have HX:Hid (Num wr u6 x):=cs;obtain⟨lx,Z,E,I⟩:=cs;obtain⟨px,cx,rfl,-,-⟩:=ei Z;have bq:x=0↔lx.length=0:=by rw[← I,eX E,List.length_eq_zero_iff]
   generalize lx.length=jx at *;clear Z E I;by_cases bl:jx=0
   ·obtain rfl:x=0:=bq.2 bl;subst bl;rw[if_pos rfl] at A;have hc:=dq.out wr hG;have M:Hid (Lib.decDigits a=l.reverse):=A;have L:Hid (l.length≤25600):=R.out _ bn;have cl:l≠[]:=fun e=>EN.dec_ne a (by rw[A,e];rfl);clear HX cr bq A bu bn R dq dk dl;cases ng
    case' false=>
     have HZ:Hid (ztx s=l.reverse∧l≠[]∧l.length≤25601):=⟨by
      have h1:=of_decide_eq_false an.out.symm;unfold ztx;rw[if_neg h1,cK,← HA.out];exact M.out,cl,by have:=L.out;omega⟩
     clear L cl M HA an;obtain⟨w9,ks⟩:∃ w9,w9=wr:=⟨wr,rfl⟩;subst ks;obtain⟨uv,kr⟩:∃ uv,uv=u5:=⟨u5,rfl⟩;subst kr
    case' true=>
     have F:(wr.alloc (.cells #[.int .u8 45] 5)).cell? ⟨wr.heap.size,0,none⟩=some (btv 45):=by simp [go_sem];rfl
     have gA:G wr (wr.alloc (.cells #[.int .u8 45] 5)):=(af _).alloc _;obtain⟨uv,w9,O,N,-,ea⟩:=pj _ w.heap.size u5 l 45 (D.G gA) (G.size (aa hG gA)) ⟨wr.heap.size,0,none⟩ F (by have:=L.out;omega);have HZ:Hid (ztx s=(l++[45]).reverse∧l++[45]≠[]∧(l++[45]).length≤25601):=⟨by
      have h1:=of_decide_eq_true an.out.symm;unfold ztx;rw[if_pos h1,← HA.out,M.out,List.reverse_append];rfl,by simp,by have:=L.out;simp;omega⟩
     have hG:=ea w (ay _) (aa hG gA);have D:=N;generalize l++[45]=l at *;clear ea N gA F L cl M HA an
    all_goals
     obtain⟨hq,ht,kv⟩:=HZ.out;have N:=D;rcases D with ⟨-,he⟩|⟨g,cap,io,e,hg,ce,em,-,kq,hp,-⟩
     ·exact absurd (List.map_eq_nil_iff.1 he) ht
     rw[cu] at e;subst e;have ec:R8 w9 g l:=⟨io,ce,fun k x hk=>by
      have h1:(l.map btv)[k]? =some (btv x):=by rw[db,hk];rfl
      have hl:=(aQ.1 h1).1;rw[← hp,cU,if_pos hl] at h1;simpa using h1⟩
     have c:Rev l g w (.int .i64 0) (.int .i64 ((l.length:Int)-1)) w9:=⟨0,l,bo _,rfl,congrArg (Value.int .i64) dT,qL l,ec,hG⟩;have U:Hid (Rev l g w (.int .i64 0) (.int .i64 ((l.length:Int)-1)) w9):=c;have dr:Hid (w.heap.size≤g):=hg;have lg:Hid (g<w9.heap.size):=EN.heap_lt ce;have mp:(l.length:Int)≤25601:=by omega
     have ii:=hi9 hq;clear hq ht kv HZ N ce em kq hp hg ec c;generalize gg:l.length=n at *;have B:=hi9 gg;clear gg
     try
      go_wp2_with (at_builtin;refine EN.wpList_app _ rfl _ _ 128 rfl _ _ rfl rfl O ?_);clear O
     try go_wp2_with fail
     go_loopw [8,9] (fun vi vj wr=>Rev l g w vi vj wr) (fun vi vj _=>(intOf vj+1-intOf vi).toNat)
     case atStart=>exact U.out
     case round=>
      clear U;obtain⟨i,m,hi,rfl,rfl,al,hR,cc⟩:=hrel;have cn:m.length=n:=by rw[al.1];exact B.out
      rw[B.out] at hi ⊢;by_cases bi:i<n-1-i
      ·obtain⟨J,ga,ci⟩:∃ J:Nat,(n:Int)-1-i=J∧J=n-1-i:=⟨n-1-i,by omega,rfl⟩;rw[ga];have hx:m[i]? =some (m[i]'(by omega)):=aB _;have hy:m[J]? =some (m[J]'(by omega)):=aB _;generalize m[i]'(by omega)=x at *;generalize m[J]'(by omega)=y at *;have jp:=hR.cell hx;have kb:=hR.cell hy;have ll:=hR.free (k:=i);have ao:=hR.set (k:=i) y;have kk:=ao.free (k:=J);have ep:=ao.cell (k:=J) (x:=y) (by rw[List.getElem?_set,if_neg dT];exact hy);have eb:=ao.set (k:=J) x;have am:=qK al (by rw[B.out];exact bi) hx (by rw[B.out,← ci];exact hy);rw[B.out,← ci] at am;have W:G w ((wr.setCell ⟨g,i,none⟩ (btv y)).setCell ⟨g,J,none⟩ (btv x)):=(cc.setCell dr.out _).setCell dr.out _;have C:Hid (Rev l g w (.int .i64 ((i:Int)+1)) (.int .i64 ((J:Int)-1)) ((wr.setCell ⟨g,i,none⟩ (btv y)).setCell ⟨g,J,none⟩ (btv x))):=⟨i+1,_,by rw[B.out];omega,rfl,congrArg (Value.int .i64) (by rw[B.out];omega),am,eb,W⟩;have gm:decide (i<J)=true:=decide_eq_true dT;have lm:(i:Int)<25601:=by omega
       have ly:(J:Int)<25601:=by omega
       have lw:1≤(J:Int):=by omega
       have ls:i<n:=by omega
       have kw:J<n:=by omega
       clear hx hy hR ao eb al am cc W cn bi ga ci;unfold btv at jp kb ep kk C;generalize (x.toNat:Int)=X at *;generalize (y.toNat:Int)=Y at *;go_wp2_with fail;exact⟨C.out,by have:=of_decide_eq_true gm;simp only[intOf];omega⟩
      ·have hf:=q0T al (by rw[B.out];exact bi);rw[← ii.out] at hf;subst hf;have lk:(convert 128 9 (.slice (some ⟨g,0,none⟩) n cap)).run Tryz.prog wr= .ok (.string ⟨(ztx s).toArray⟩) wr:=by
        have h:=run_convert_bytes_back (P:=Tryz.prog) wr 128 9 5 ⟨g,0,none⟩ cap (ztx s) dV dV dV (fun j hj=>by
         rw[Lib.add_plain,az];exact hR.cell (aB hj))
        rw[cn] at h;exact h
       have gm:decide ((i:Int)<(n:Int)-1-i)=false:=decide_eq_false dT;clear hR al cn bi;generalize hS:(⟨(ztx s).toArray⟩:ByteArray)=S at *;have HS:=hi9 hS;clear hS;go_wp2_with fail;go_ret;exact⟨by rw[HS.out];rfl,cc⟩
   ·have cz:0<x:=by have:=mt bq.1 bl;omega
    have mm:decide (0<jx)=true:=decide_eq_true dT;rw[if_neg dT] at A;obtain⟨fs,fv⟩:=pD cz A;have HS:=hi9 (nO wr (.slice px jx cx) x 10 K dT dT dT HX.out (aG bu dl.out));have hr:x%10<10:=aU _ dT;have hle:x/10≤a:=ch (bh _ _) bu;have C:Hid (∀ w6 v vp,G w w6→Num w6 v (x/10)→BO w6 w.heap.size vp (l++[UInt8.ofNat (48+x%10)])→Dig a w vp v w6):=fun w6 v vp k h1 h2=>⟨_,_,h1,h2,hle,fv,fs,k⟩;have ia:Hid (x/10<x):=Nat.div_lt_self cz dT;have ih:=hi9 cr;have L:Hid (l.length≤25600):=R.out _ bn;have ek:btv (UInt8.ofNat (48+x%10))= .int .u8 (48+((x%10:Nat):Int)):=by
     unfold btv;rw[UInt8.toNat_ofNat']
     congr 1
     omega
    have hw:=hi9 ek;clear HX bq bl cz A fs fv hle cr bu bn ek;generalize x/10=q at *;generalize x%10=r at *;generalize UInt8.ofNat (48+r)=d at *;have ms:(r:Int)≤9:=by omega
    have lb:decide ((r:Int)<10)=true:=decide_eq_true dT;have lc:decide (r<10)=true:=decide_eq_true hr;clear hr;go_wp2_with fail;refine Calls.mono (P:=Tryz.prog) HS.out ?_;intro e w4 hs;obtain⟨v,rfl,g4,hv⟩:=hs;have HV:Hid (Num w4 v q):=hv;have F:(w4.alloc (.cells #[.int .u8 (48+(r:Int))] 5)).cell? ⟨w4.heap.size,0,none⟩=some (btv d):=by rw[hw.out];simp [go_sem]
    have gA:G w4 (w4.alloc (.cells #[.int .u8 (48+(r:Int))] 5)):=(af _).alloc _;obtain⟨v6,w6,O,ho,bz,W⟩:=pj _ w.heap.size u5 l d (D.G (aa g4 gA)) (G.size (aa hG (aa g4 gA))) ⟨w4.heap.size,0,none⟩ F (by have:=L.out;omega);have cb:Num w6 v q:=bz _ _ (HV.out.G gA);have G6:G w w6:=W w (ay _) (aa hG (aa g4 gA));have hrel:=C.out w6 v v6 G6 cb ho;have hh:numV w6 v<x:=by rw[fm cb];exact ia.out
    have ib:=hi9 hh;clear C HV cb ho bz W F hh hv HS;go_wp2_with (at_builtin;refine EN.wpList_app _ rfl _ _ 128 rfl _ _ rfl rfl O ?_);go_wp2_with fail
    go_roundw
    case rel=>exact hrel
    case measure=>rw[ih.out];exact ib.out
theorem pV (w:World) (b o:Nat) (s:Int) (K:Nat) (F:K≤800) (A:1≤K) (C:s.natAbs<2^(32*K)) (D:IntIs w b o s) (B:b<w.heap.size):
  Calls Tryz.prog 29 #[.pointer (some ⟨b,o,none⟩)] w fun e I=>e= .returned (.string ⟨(ztx s).toArray⟩)∧G w I:=by
 have E:=hi9 (q0y w b o s K F A C D B);generalize (⟨(ztx s).toArray⟩:ByteArray)=S at *;clear D C;go_enter Tryz.func29,Tryz.ntmps29;go_wp2_with fail;refine dS E.out ?_;rintro e J ⟨rfl,g⟩;go_wp2_with fail;go_ret;exact⟨rfl,g⟩
theorem q0x (w:World) (b:Nat) (sa:Int) (d K:Nat) (U:K≤800) (O:1≤K) (F:0<d) (N:d<2^(32*K)) (h:RatIs w b sa (d:Int)) (hb:b<w.heap.size):
  Calls Tryz.prog 45 #[.pointer (some ⟨b,0,none⟩)] w fun e R=>e= .returned (.bool (decide (d=1)))∧G w R:=by
 have L:=hi9 (q18 w b sa (d:Int) dT h);have M:Hid (∀ A,Calls Tryz.prog 44 #[.int .i64 1] A (RetI A 1)):=fun A=>mH A 1 dT;have J:Hid (∀ A p,G w A→p<A.heap.size→IntIs A p 0 1→_):=fun A p g I hi=>q1p A b 2 p 0 (d:Int) 1 K dT (by rw[bM];exact N) (by
  have:2^1≤2^(32*K):=ak dT dT;show 1<_;omega) (G.lt g hb) I (IntIs.G h.2 hb g) hi
 have B:(cmpI (d:Int) 1==0)=decide (d=1):=by
  unfold cmpI;rw[if_neg dT];by_cases e:d=1
  ·subst e;rfl
  ·rw[if_neg dT,decide_eq_false e];rfl
 have E:=hi9 B;generalize decide (d=1)=t at *;generalize cmpI (d:Int) 1=z at *;clear h N F;go_enter Tryz.func45,Tryz.ntmps45;go_wp2_with fail;refine dS L.out ?_;rintro e A ⟨rfl,g1⟩;go_wp2_with fail;refine dS (M.out _) ?_;rintro e S ⟨p,rfl,g2,I,C,hi⟩;have D:Hid _:=J.out S p (aa g1 g2) C hi;clear J M L hi I C;go_wp2_with fail;refine dS D.out ?_;rintro e W ⟨rfl,g3⟩;go_wp2_with fail;go_ret;exact⟨by first|rfl|(rw[← E.out];rfl),aa g1 (aa g2 g3)⟩
/-- The text of a ratio. -/
theorem qC (w:World) (b:Nat) (q:Rat) (K:Nat) (M:K≤800) (E:1≤K) (I:q.num.natAbs<2^(32*K)) (J:q.den<2^(32*K)) (h:RatIs w b q.num (q.den:Int)) (hb:b<w.heap.size):
  Calls Tryz.prog 9 #[.pointer (some ⟨b,0,none⟩)] w fun e U=>e= .returned (.string ⟨(EN.qtx q).toArray⟩)∧G w U:=by
 have B:∀ n:Nat,n<2^(32*K)→(Lib.decDigits n).length≤32*K:=fun n I=>EN.dec_len_le dT (ad I (dI dT _));have C:=hi9 (q0x w b q.num q.den K M E q.den_pos J h hb);have L:Hid (∀ A,G w A→_):=fun A g=>pV A b 0 q.num K M E I (IntIs.G h.1 hb g) (G.lt g hb);have W:Hid (∀ A,G w A→_):=fun A g=>pV A b 2 (q.den:Int) K M E (by rw[bM];exact J) (IntIs.G h.2 hb g) (G.lt g hb);have F:Hid (∀ A,G w A→_):=fun A g=>q18 A b q.num (q.den:Int) (by have:=q.den_pos;omega) (RatIs.G h hb g);have h1:=B _ I;have h2:=B _ J;have S:(⟨(ztx q.num).toArray⟩:ByteArray).size≤25601:=by
  rw[EN.txt_size];unfold ztx;rw[ag];split<;>simp <;>omega
 have R:(⟨(ztx (q.den:Int)).toArray⟩:ByteArray).size≤25601:=by
  rw[EN.txt_size];unfold ztx;rw[if_neg dT,cK,bM];omega
 have Z:Hid (∀ y,y=(if q.den=1 then (⟨(ztx q.num).toArray⟩:ByteArray) else (⟨(ztx q.num).toArray⟩++⟨#[47]⟩)++⟨(ztx (q.den:Int)).toArray⟩)→y=⟨(EN.qtx q).toArray⟩):=by
  rintro y rfl;rw[show (⟨#[47]⟩:ByteArray)=⟨[47].toArray⟩ from rfl];unfold EN.qtx ztx;split
  ·rw[bZ]
  ·rw[if_neg (show ¬ ((q.den:Int)<0) by omega),cK,bM,EN.bytes_app,EN.bytes_app,cM _ [47],List.singleton_append]
 have N:¬ 9223372036854775807<(⟨(ztx q.num).toArray⟩:ByteArray).size+(⟨#[47]⟩:ByteArray).size:=by rw[show (⟨#[47]⟩:ByteArray).size=1 from rfl];omega
 have O:¬ 9223372036854775807<(⟨(ztx q.num).toArray⟩++⟨#[47]⟩:ByteArray).size+(⟨(ztx (q.den:Int)).toArray⟩:ByteArray).size:=by rw[ByteArray.size_append,show (⟨#[47]⟩:ByteArray).size=1 from rfl];omega
 generalize (⟨(ztx q.num).toArray⟩:ByteArray)=X at *;generalize (⟨(ztx (q.den:Int)).toArray⟩:ByteArray)=Y at *;clear h1 h2 S R B h J I;by_cases D:q.den=1
 ·rw[show decide (q.den=1)=true from decide_eq_true D] at C;go_enter Tryz.func9,Tryz.ntmps9;go_wp2_with fail;refine dS C.out ?_;rintro e A ⟨rfl,g1⟩;go_wp2_with fail;refine dS (L.out _ g1) ?_;rintro e c ⟨rfl,g2⟩;go_wp2_with fail;go_ret;exact⟨congrArg (fun b=>Ending.returned (Value.string b)) (Z.out _ (by rw[if_pos D])),aa g1 g2⟩
 ·rw[show decide (q.den=1)=false from decide_eq_false D] at C;have d:Hid (∀ A,G w A→Calls Tryz.prog 46 #[.pointer (some ⟨b,0,none⟩)] A fun e U=>e= .returned (.string ((X++⟨#[47]⟩)++Y))∧G A U):=by
   intro A g1;go_enter Tryz.func46,Tryz.ntmps46;go_wp2_with fail;refine dS (L.out _ g1) ?_;rintro e c ⟨rfl,g2⟩;go_wp2_with fail;refine dS (F.out _ (aa g1 g2)) ?_;rintro e i ⟨rfl,g3⟩;go_wp2_with fail;refine dS (W.out _ (aa g1 (aa g2 g3))) ?_;rintro e j ⟨rfl,g4⟩;go_wp2_with fail;go_ret;exact⟨rfl,aa g2 (aa g3 g4)⟩
  clear L W F N O;go_enter Tryz.func9,Tryz.ntmps9;go_wp2_with fail;refine dS C.out ?_;rintro e A ⟨rfl,g1⟩;go_wp2_with fail;refine dS (d.out _ g1) ?_;rintro e c ⟨rfl,g2⟩;go_wp2_with fail;go_ret;exact⟨congrArg (fun b=>Ending.returned (Value.string b)) (Z.out _ (by rw[if_neg D])),aa g1 g2⟩
end Go.Proofs.YtfnkkkcojnffdaaGreatDoor
namespace Go.Proofs.YtfnkkkcojnffdaaGreatDoor.EN
open Go.ChangeShapes Go.WideShapes Go.ChangeAt Go.RowKit
/-- A store of a function. -/
theorem qJ (P:Program) (w:World) (a:Addr) (m:Mode) (fn:Fn) (x y:Array Value):(store a (.func fn x y) m).run P w=stored P w a (.func fn x y) m:=run_store P w a _ m rfl
attribute [local go_sem] qJ
theorem qw:qtx 0=[48]:=by
 unfold qtx;rw[show (0:Rat).num=0 from rfl,show (0:Rat).den=1 from rfl,if_neg dT,if_pos rfl];show []++Lib.decDigits 0++[]=_;rw[Lib.decDigits];rfl
end Go.Proofs.YtfnkkkcojnffdaaGreatDoor.EN
