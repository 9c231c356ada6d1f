/- What is proved here: a slice of values of one cell, of our own, that grows, over this seat's translation (no program).
What is proved here: contracts of package exact: the text of a natural number of any size, over this seat's translation.
What is proved here: contracts of package exact: the text of a fraction, over this seat's translation.
What is proved here: contracts of the reference's big numbers: the decimal text of an Int, over this seat's translation.
What is proved here: contracts of the reference's big numbers: the decimal text of an Int (its loops), over this seat's translation.
What is proved here: contracts of the reference's ratios: their text, over this seat's translation.
What is proved here: contracts of the law on fractions: powers of two and ten, over this seat's translation. -/
import Derived.Test.YtfnkkkcojnffdaaGreatDoorQ1
import Derived.Test.YtfnkkkcojnffdaaGreatDoorQ33
import Derived.Test.YtfnkkkcojnffdaaGreatDoorQ39
import Derived.Test.YtfnkkkcojnffdaaGreatDoorQ3
import Derived.Test.YtfnkkkcojnffdaaGreatDoorQ18
import Derived.Test.YtfnkkkcojnffdaaGreatDoorQ17
import Derived.Test.YtfnkkkcojnffdaaGreatDoorQ30
import Derived.Test.YtfnkkkcojnffdaaGreatDoorQ20
import Derived.Test.YtfnkkkcojnffdaaGreatDoorQ31
import Derived.Test.YtfnkkkcojnffdaaGreatDoorQ26
import Derived.Test.YtfnkkkcojnffdaaGreatDoorQ8
namespace Go.Proofs.YtfnkkkcojnffdaaGreatDoor.EN
open Go.ChangeShapes Go.WideShapes Go.ChangeAt Go.RowKit
/-- A slice whose block is our own (from block base on), of values of one cell; of all cells of the block something is known. -/
def EO (e:TypeId) (ok:Value→Prop) (w:World) (B:Nat) (v:Value) (C:List Value):Prop:=
 (v= .slice none 0 0∧C=[])∨∃ g cap A,v= .slice (some ⟨g,0,none⟩) C.length cap∧B≤g∧w.heap[g]? =some (.cells A e (0,0))∧C.length≤cap∧cap≤maxLen∧A.size=cap∧A.toList.take C.length=C∧∀ x∈A.toList,ok x
theorem EO.G {e:TypeId} {ok:Value→Prop} {w C:World} {A:Nat} {v:Value} {D:List Value} (h:EO e ok w A v D) (g:Go.Proofs.YtfnkkkcojnffdaaGreatDoor.G w C):EO e ok C A v D:=by
 rcases h with h|⟨b,cap,B,e,h1,h2,h3⟩
 ·exact Or.inl h
 ·refine Or.inr ⟨b,cap,B,e,h1,?_,h3⟩;obtain⟨-,-,-,-,g5⟩:=g;exact(g5 b (heap_lt h2)).trans h2
theorem EO.at {e:TypeId} {ok:Value→Prop} {w:World} {A g n c i:Nat} {C:List Value} {x:Value} (h:EO e ok w A (.slice (some ⟨g,0,none⟩) n c) C) (hi:C[i]? =some x):w.cell? ⟨g,i,none⟩=some x:=by
 rcases h with ⟨h,-⟩|⟨b,cap,D,e,h1,h2,h3,J,K,h6,L⟩
 ·cases h
 ·injection e with B F I;injection B with B;injection B with B;subst B;have E:=(aV.1 hi).1;rw[← h6,cO,if_pos E] at hi;simp only[World.cell?,h2];simpa using hi
/-- What an append leaves standing: all; or all but one block, of whose cells something is known. -/
def Aft (ok:Value→Prop) (w A:World):Prop:=G w A∨∃ g l,Rec w g l∧(∀ x∈l,ok x)∧(∀ i k,i≠g→A.cell? ⟨i,k,none⟩=w.cell? ⟨i,k,none⟩)∧w.heap.size≤A.heap.size
theorem eo_app {T e:TypeId} {ok:Value→Prop} {i:TypeInfo} {z x:Value} (W:Tryz.prog.underlying T=some (.slice e)) (hi:Tryz.prog.info? e=some i) (hz:i.zero=some z) (R:i.size=1) (Y:i.bytes≤16) (N:z.cells=#[z]) (s:ok z) (hx:ok x) (U:x.oneCell'=true)
  (w:World) (C:Nat) (v:Value) (B:List Value) (h:EO e ok w C v B) (hb:C≤w.heap.size) (a:Addr) (M:w.cell? a=some x) (am:B.length≤1000000):
  ∃ v' S,(Builtin.append_ #[T,T] T #[v,.slice (some a) 1 1]).run Tryz.prog w= .ok v' S∧EO e ok S C v' (B++[x])∧Aft ok w S∧∀ w0:World,w0.heap.size≤C→G w0 w→G w0 S:=by
 have X:a.add 0=a:=by unfold Addr.add;simp
 have D:∀ j u,([x]:List Value)[j]? =some u→w.cell? (a.add j)=some u:=by
  intro j u hu;rcases j with _|j
  ·rw[X,M];simpa using hu
  ·simp at hu
 have m:([x]:List Value).length=1*i.size:=by rw[R];rfl
 have o:maxLen=9223372036854775807:=rfl;have K:∀ k:Nat,k≤1000001→k*i.bytes≤16000016:=fun k d=>bN d Y;have F:∀ (old:Nat),(∀ y∈B,ok y)→EO e ok (w.drew.alloc (.cells (B.toArray++([x]:List Value).toArray++Builtin.zeroCells z.cells (grownCap w (B.length+1) old e-(B.length+1))) e)) C (.slice (some ⟨w.heap.size,0,none⟩) (B.length+1) (grownCap w (B.length+1) old e)) (B++[x]):=by
  intro old al;have Z:=grownCap_ge w (B.length+1) old e;refine Or.inr ⟨w.heap.size,_,_,by rw[aG];rfl,hb,heap_alloc_new w.drew _,by rw[aG];exact Z,grownCap_le_maxLen w _ old _ (by rw[o];omega),?_,?_,?_⟩
  ·rw[N];simp only[Array.size_append,List.size_toArray,size_zeroCells,dW];show B.length+1+_*1=_;omega
  ·simp only[Array.toList_append];exact List.take_left' fI
  ·intro y A;simp only[Array.toList_append,List.mem_append] at A;rcases A with (A|A)|A
   ·exact al y A
   ·rw[List.mem_singleton] at A;rw[A];exact hx
   ·rw[N] at A;simp only[Builtin.zeroCells,Array.toList_map,List.mem_map] at A;obtain⟨k,-,rfl⟩:=A;rw[show k%(#[z]:Array Value).size=0 from Nat.mod_one k];exact s
 rcases h with ⟨rfl,rfl⟩|⟨g,cap,I,rfl,h1,h2,h3,h4,h5,h6,O⟩
 ·have J:=run_append_nil (P:=Tryz.prog) w T T e i _ W hi hz a 1 1 [x] m D eK eK (by have:=K 1 eK;omega);have hn:=F 0 (by intro y A;cases A);simp only[cL,aD,bW,Array.empty_append] at hn J;exact⟨_,_,J,hn,Or.inl ((ag _).drew.alloc _),fun _ _ h=>h.drew.alloc _⟩
 ·by_cases E:B.length+1≤cap
  ·have J:=run_append_room (P:=Tryz.prog) w T T e i W hi g B.length cap I h2 a 1 1 [x] m D (by
    intro u hu;rw[List.mem_singleton] at hu;rw[hu];exact U) E (by rw[R,h5];show _≤_;simp;omega)
   rw[R,bJ] at J;have L:Rec w g I.toList:=⟨e,by simpa using h2⟩;refine⟨_,_,J,Or.inr ⟨g,cap,_,by rw[aG];rfl,h1,setRow_heap w g I _ _ _ h2,by rw[aG];exact E,h4,?_,?_,?_⟩,?_,?_⟩
   ·simp only[List.size_toArray,aG,bj,cI,Array.length_toList,dW];omega
   ·rw[h6];exact List.take_left' fI
   ·intro y A;simp only[List.mem_append] at A;rcases A with (A|A)|A
    ·exact O y (List.mem_of_mem_take A)
    ·rw[List.mem_singleton] at A;rw[A];exact hx
    ·exact O y (List.mem_of_mem_drop A)
   ·exact Or.inr ⟨g,_,L,O,fun j k c=>World.cell?_of_block (setRow_other w g j _ c),by simp⟩
   ·intro w0 h0 ⟨g1,g2,g3,g4,g5⟩;refine⟨g1,g2,g3,by simpa using g4,fun k d=> ?_⟩;rw[setRow_other w g k _ eK];exact g5 k d
  ·have holds:∀ j u,B[j]? =some u→w.cell? ((⟨g,0,none⟩:Addr).add j)=some u:=by
    intro j u hu;have c:j<B.length:=(aV.1 hu).1;rw[Lib.add_plain,aD];simp only[World.cell?,h2];rw[← h6,cO,if_pos c] at hu;simpa using hu
   have J:=run_append_grow (P:=Tryz.prog) w T T e i _ W hi hz ⟨g,0,none⟩ B.length cap B (by rw[R,bJ]) holds a 1 1 [x] m D eK eK (growslice_fits eK (by have:=K (B.length+1) eK;omega));exact⟨_,_,J,F cap (fun y A=>O y (by rw[← h6] at A;exact List.mem_of_mem_take A)),Or.inl ((ag _).drew.alloc _),fun _ _ h=>h.drew.alloc _⟩
/-- The text of a number. -/
def dtx (n:Nat):Value:= .string ⟨(Lib.decDigits n).toArray⟩
/-- A slice of texts of numbers of our own. -/
def SO (w:World) (A:Nat) (v:Value) (l:List Nat):Prop:=EO 9 gW w A v (l.map dtx)
theorem SO.G {w B:World} {A:Nat} {v:Value} {l:List Nat} (h:SO w A v l) (g:Go.Proofs.YtfnkkkcojnffdaaGreatDoor.G w B):SO B A v l:=EO.G h g
theorem q3t (w:World) (A:Nat) (v:Value) (l:List Nat) (x:Nat) (h:SO w A v l) (hb:A≤w.heap.size) (a:Addr) (D:w.cell? a=some (dtx x)) (J:l.length≤100000):
  ∃ E C,(Builtin.append_ #[123,123] 123 #[v,.slice (some a) 1 1]).run Tryz.prog w= .ok E C∧SO C A E (l++[x])∧(∀ u n,Num w u n→Num C u n)∧∀ w0:World,w0.heap.size≤A→G w0 w→G w0 C:=by
 obtain⟨i,hi,B⟩:=bP.1 (show (Tryz.prog.info? 9).map (fun i=>(i.zero,i.size,i.bytes))=some (some (.string .empty),1,16) by kernel_rfl);simp only[Prod.mk.injEq] at B;obtain⟨E,C,h1,h2,h3,K⟩:=eo_app (T:=123) (ok:=gW) (x:=dtx x) Tryz.underlying123 hi B.1 B.2.1 (by rw[B.2.2];omega) rfl trivial trivial rfl w A v (l.map dtx) h hb a D (by rw[cg];omega);refine⟨E,C,h1,by unfold SO;rw[List.map_append];exact h2,?_,K⟩;rcases h3 with g|⟨g,L,N,F,M,I⟩
 ·exact fun _ _ h=>h.G g
 ·exact fun u n hu=>jo hu N F _ M I
/-- What the first loop has done. -/
def Cut (n:Nat) (A:Nat) (w:World) (va C:Value) (wr:World):Prop:=
 ∃ (a:Nat) (l:List Nat),Num wr va a∧SO wr A C l∧lots l+10000000000000000000^l.length*a=n∧(∀ x∈l,x<10000000000000000000)∧((l=[]∧0<a)∨∃ B x,l=B++[x]∧(a=0→0<x))∧G w wr
theorem rO {n a:Nat} {l:List Nat} (h:lots l+10000000000000000000^l.length*a=n):lots (l++[a%10000000000000000000])+10000000000000000000^(l++[a%10000000000000000000]).length*(a/10000000000000000000)=n:=by
 rw[ku,aG,dW,bp,ak,cC,← aw,bR (a%_),cu,h]
theorem pL {n a K:Nat} {l:List Nat} (h:lots l+10000000000000000000^l.length*a=n) (A:0<a) (B:n<2^(64*K)):l.length<64*K:=by
 have h1:2^l.length≤10000000000000000000^l.length:=cT eK _;have h2:10000000000000000000^l.length≤10000000000000000000^l.length*a:=Nat.le_mul_of_pos_right _ A;exact(aY eK).1 (show 2^l.length<2^(64*K) by omega)
theorem mV:∀ k,Lib.repeatL [48] k=List.replicate k 48:=by
 intro k
 induction k with
 |zero=>rfl
 |succ k A=>rw[Lib.repeatL,A,ei];rfl
theorem q0h:∀ (l:List Nat) (i:Nat),(∃ A x,l=A++[x]∧0<x)→i<l.length→0<lots (l.drop i):=by
 rintro l i ⟨A,x,rfl,B⟩ hi;rw[aG,dW] at hi;rw[List.drop_append_of_le_length eK,ku];have:=bF (Nat.pow_pos (n:=(A.drop i).length) (show 0<10000000000000000000 by omega)) B;omega
theorem lM {n K:Nat} (A:n<2^(64*K)) (B:1≤K):(Lib.decDigits n).length≤64*K:=by
 refine dec_len_le eK (ae A (cT eK _))
theorem q1J (l:List Nat) (i:Nat):lots (l.drop i)≤lots l:=by
 induction l generalizing i with
 |nil=>simp
 |cons x l A=>
  cases i with
  |zero=>exact az _
  |succ i=>
   have:=A i;rw[List.drop_succ_cons,lots];omega
/-- What stands of the parts behind the first loop: their cells. -/
def Parts (g:Nat) (l:List Nat) (w:World):Prop:=g<w.heap.size∧∀ i,i<l.length→w.cell? ⟨g,i,none⟩=some (dtx (l.getD i 0))
theorem Parts.G {w A:World} {g:Nat} {l:List Nat} (h:Parts g l w) (k:G w A):Parts g l A:=
 ⟨ae h.1 k.size,fun i hi=>k.cell h.1 (h.2 i hi)⟩
/-- What the second loop has done. -/
def Wrote (l:List Nat) (b:Nat) (w:World) (A:Value) (wr:World):Prop:=
 ∃ j:Nat,j<l.length∧A= .int .i64 ((j:Int)-1)∧Bld wr b (Lib.decDigits (lots (l.drop j)))∧G w wr
set_option maxRecDepth 10000 in
theorem oh (w:World) (va:Value) (n K:Nat) (hK:K≤400) (gn:1≤K) (ha:Num w va n) (hn:n<2^(64*K)) (hT:P10 w):
  Calls Tryz.prog 47 #[va] w fun e w'=>e= .returned (dtx n)∧G w w':=by
 have HA:Hid (Num w va n):=ha;obtain⟨l,hl,ee,ce⟩:=ha;obtain⟨p,c,rfl,-,-⟩:=fa hl;by_cases h0:l.length=0
 ·have J:l=[]:=aH h0;have o:n=0:=by rw[← ce,J];rfl
  have hd:dtx 0= .string ⟨#[48]⟩:=by rw[dtx,show Lib.decDigits 0=[48] from by rw[Lib.decDigits];rfl]
  rw[h0];subst o;clear hl ee ce h0 J HA hT hn;go_enter Tryz.func47,Tryz.ntmps47;go_wp2_with fail;go_ret;exact⟨by rw[hd];rfl,ag _⟩
 ·have o:0<n:=by
   rcases bo n with h|h
   ·exfalso;have h1:=gv HA.out;obtain⟨p2,j2,q2,e,hk,-⟩:=h1;injection e with x1 x2 x3;omega
   ·exact h
  have hp:((l.length:Int)==0)=false:=by simp;exact fun e=>h0 (by rw[e];rfl)
  generalize l.length=k at *;have HT:Hid (∀ D,G w D→P10 D):=fun D g=>hT.G g;have ia:Hid (0<n):=o;have HN:Hid (n<2^(64*K)):=hn;have U:Hid (Cut n w.heap.size w (.slice p k c) (.slice none 0 0) w):=⟨n,[],HA.out,Or.inl ⟨rfl,rfl⟩,by simp [lots],by simp,Or.inl ⟨rfl,o⟩,ag _⟩;clear hT o hn h0 hl ee ce HA;go_enter Tryz.func47,Tryz.ntmps47;go_wp2_with fail
  go_loopw [0,3,4] (fun va vp vw wr=>Cut n w.heap.size w va vp wr) (fun va _ _ wr=>numV wr va)
  case atStart=>exact U.out
  case round=>
   clear U hp;obtain⟨a,A,cl,O,B,N,M,hG⟩:=hrel;have HA:Hid (Num wr u0 a):=cl;have ci:numV wr u0=a:=gE cl;obtain⟨la,fs,ec,gf⟩:=cl;obtain⟨pa,ca,rfl,-,-⟩:=fa fs;have al:la.length=0↔a=0:=by
    obtain⟨p2,j2,q2,e,hk,-⟩:=gv HA.out;injection e with x1 x2 x3;rw[x2];exact hk
   generalize la.length=j at *;clear fs ec gf;by_cases hj:j=0
   ·obtain rfl:a=0:=al.1 hj;obtain⟨C,ht⟩:∃ C,C=wr:=⟨wr,rfl⟩;subst ht;subst hj;clear HA ci al;rw[bm,aS] at B;obtain⟨l0,x,J,hx⟩:∃ l0 x,A=l0++[x]∧0<x:=by
     rcases M with ⟨-,h⟩|⟨l0,x,h,hx⟩
     ·omega
     ·exact⟨l0,x,h,hx rfl⟩
    have bs:=fun i hi=>q0h A i ⟨l0,x,J,hx⟩ hi;have m:A.length=l0.length+1:=by rw[J,aG];rfl
    have cd:A.length≤64*K:=by
     have h1:lots l0+10000000000000000000^l0.length*x=n:=by rw[← ku,← J];exact B
     have:=pL h1 hx HN.out;omega
    have s:=O;rcases O with ⟨-,hz⟩|⟨g,cap,ib,e,hg,eb,ed,-⟩
    ·rw[List.map_eq_nil_iff.1 hz] at m;exact absurd m fI
    rw[cg] at e;subst e;have HP:Hid (Parts g A C):=⟨heap_lt eb,fun i hi=>s.at (by rw[de,ad,aE hi];rfl)⟩;clear eb hg M J s;generalize hq:l0.length=q at *;have E:Hid (A.length=q+1):=m;have cx:=hi9 bs;have R:Hid (lots A=n):=B;have cm:=hi9 N;have io:(q:Int)<30000:=by omega
    rw[m];clear hx hq bs B N m ed cd;have ea:(C.alloc (.cells #[.pointer none,.slice none 0 0] 130)).heap[C.heap.size]? =some (.cells #[.pointer none,.slice none 0 0] 130 (0,0)):=by simp only[World.alloc];exact dt
    have HD:Hid (∀ i,i<q+1→(Lib.decDigits (A.getD i 0)).length≤19∧A.getD i 0<10000000000000000000):=fun i hi=>by
     have h1:A.getD i 0<10000000000000000000:=by
      have d:i<A.length:=by rw[E.out];exact hi
      rw[ad,aE d];exact cm.out _ (List.getElem_mem d)
     exact⟨dec_len_le eK (by simpa using h1),h1⟩
    have cz:Hid _:=oA (C.alloc (.cells #[.pointer none,.slice none 0 0] 130)) C.heap.size (Lib.decDigits (A.getD q 0)) ea (by have:=(HD.out q eK).1;omega);have g1:G C (C.alloc (.cells #[.pointer none,.slice none 0 0] 130)):=(ag _).alloc _;have hc:(C.alloc (.cells #[.pointer none,.slice none 0 0] 130)).cell? ⟨g,q,none⟩=some (.string ⟨(Lib.decDigits (A.getD q 0)).toArray⟩):=Lib.cell?_alloc_some _ (HP.out.2 q (by rw[E.out];omega));clear ea;go_wp2_with fail;refine eJ cz.out ?_;intro e w4 hs;obtain⟨⟨v4,rfl⟩,hB,bi⟩:=hs;have ga:Wrote A C.heap.size C (.int .i64 ((q:Int)+1-2)) w4:=⟨q,by rw[E.out];omega,congrArg (Value.int .i64) eK,by
     have e:lots (A.drop q)=A.getD q 0:=by
      have d:q<A.length:=by rw[E.out];omega
      rw[ew d,aQ (by rw[E.out];omega),lots,lots,bm,aS,ad,aE d];rfl
     rw[e];exact hB,Below.trans g1 bi⟩
    have HS:=hi9 ga;clear ga hc cz g1 hB bi;go_wp2_with fail
    go_loopw [6] (fun vi w5=>Wrote A C.heap.size C vi w5) (fun vi _=>(intOf vi+1).toNat)
    case atStart=>exact HS.out
    case round=>
     clear HS;obtain⟨jj,hm,rfl,hB,W⟩:=hrel;rw[E.out] at hm;have dr:=HP.out.G W;rcases jj with _|i
     ·have U:=hi9 (Tryz.Builder_String_any_f C.heap.size C.heap.size _ wr (Or.inr hB) W.size);rw[List.drop_zero,R.out] at U;have G5:=aa hG W;have ho:=G5.size;clear hB W dr;go_wp2_with fail;refine eJ U.out ?_;rintro e F ⟨rfl,-,gz⟩;have G6:G w F:=Below.trans G5 (Below.mono gz hG.size);go_wp2_with fail;go_ret;exact⟨rfl,G6⟩
     ·have hc:=dr.2 i (by rw[E.out];omega);obtain⟨em,bl⟩:=HD.out i eK;have gd:=qU A i (A.getD i 0) (by rw[ad,aE (by rw[E.out];omega)];rfl) bl (cx.out (i+1) (by rw[E.out];omega));have hle:=q1J A (i+1);have he:(Lib.decDigits (lots (A.drop (i+1)))).length≤64*K:=lM (aq hle (by rw[R.out];exact HN.out)) gn;have ho:(⟨(Lib.decDigits (A.getD i 0)).toArray⟩:ByteArray).size=(Lib.decDigits (A.getD i 0)).length:=by show (Lib.decDigits (A.getD i 0)).toArray.size=_;simp
      have an:Hid (∀ D,Calls Tryz.prog 107 #[.string ⟨#[48]⟩,.int .i64 (19-((Lib.decDigits (A.getD i 0)).length:Int))] D fun e w'=>e= .returned (.string ⟨(List.replicate (19-(Lib.decDigits (A.getD i 0)).length) 48).toArray⟩)∧G D w'):=fun D=>by
       have h:=Tryz.strings_Repeat ⟨#[48]⟩ (19-(Lib.decDigits (A.getD i 0)).length) D eK (by show 1*_≤_;omega);rw[show (((19-(Lib.decDigits (A.getD i 0)).length:Nat)):Int)=19-((Lib.decDigits (A.getD i 0)).length:Int) from by omega,show (⟨#[48]⟩:ByteArray).data.toList=[48] from rfl,mV] at h;exact h
      have cn:Hid (Bld wr C.heap.size (Lib.decDigits (lots (A.drop (i+1))))):=hB;have cy:Hid (∀ D,G wr D→_):=fun D k=>ke D C.heap.size (Lib.decDigits (lots (A.drop (i+1)))) (List.replicate (19-(Lib.decDigits (A.getD i 0)).length) 48) (cn.out.G k) (by rw[List.length_replicate];omega);have bz:Hid (∀ D,Bld D C.heap.size (Lib.decDigits (lots (A.drop (i+1)))++List.replicate (19-(Lib.decDigits (A.getD i 0)).length) 48)→_):=fun D h=>ke D C.heap.size _ (Lib.decDigits (A.getD i 0)) h (by rw[aG,List.length_replicate];omega);have hL:((Lib.decDigits (A.getD i 0)).length:Int)≤19:=by omega
      have hf:wr.cell? ⟨g,i,none⟩=some (.string ⟨(Lib.decDigits (A.getD i 0)).toArray⟩):=hc;have cr:Hid (∀ D,G C D→D.cell? ⟨g,i,none⟩=some (.string ⟨(Lib.decDigits (A.getD i 0)).toArray⟩)):=fun D k=>k.cell HP.out.1 (HP.out.2 i (by rw[E.out];omega));rw[← gd] at bz;have hh:((i+1:Nat):Int)-1=i:=by omega
      rw[hh];have ih:(i:Int)<30000:=by omega
      have I:Hid (∀ F,Bld F C.heap.size (Lib.decDigits (lots (A.drop i)))→G C F→Wrote A C.heap.size C (.int .i64 ((i:Int)-1)) F):=fun F h k=>⟨i,by rw[E.out];omega,rfl,h,k⟩;generalize lots (A.drop i)=Q0 at *;generalize lots (A.drop (i+1))=Q at *;clear hc em bl gd hle he hB cn;generalize hZ:(⟨(List.replicate (19-(Lib.decDigits (A.getD i 0)).length) 48).toArray⟩:ByteArray)=Z at *;generalize hS:(⟨(Lib.decDigits (A.getD i 0)).toArray⟩:ByteArray)=S at *;generalize (Lib.decDigits (A.getD i 0)).length=L at *;go_wp2_with fail;refine eJ (an.out _) ?_;rintro e w5 ⟨rfl,g5⟩;have ao:Hid _:=cy.out w5 g5;have G5:G C w5:=aa W g5;clear an cy hf;go_wp2_with fail;refine eJ ao.out ?_;intro e F hs;obtain⟨⟨v6,rfl⟩,dk,X⟩:=hs;have G6:G C F:=Below.trans G5 X;have hw:=cr.out F G6;have ap:Hid _:=bz.out F dk;clear ao dk X bz cr;go_wp2_with fail;refine eJ ap.out ?_;intro e w7 hs;obtain⟨⟨v7,rfl⟩,dl,Y⟩:=hs;have G7:G C w7:=Below.trans G6 Y;have hR:=I.out w7 dl G7;clear ap dl Y I;go_wp2_with fail
      go_roundw
      case rel=>exact hR
      case measure=>simp only[intOf];omega
   ·have cc:0<a:=by
     rcases bo a with h|h
     ·exact absurd (al.2 h) hj
     ·exact h
    have ii:decide (0<j)=true:=decide_eq_true eK;have en:=pL B cc HN.out;have ds:a<2^(64*K):=by
     refine aq ?_ HN.out;rw[← B];exact bk (dP _ (Nat.pow_pos eK)) (eh _ _)
    have HD:=hi9 (gP wr (.slice pa j ca) a 10000000000000000000 K eK HA.out ds eK eK);have hr:a%10000000000000000000<10000000000000000000:=aX _ eK;have HF:Hid (∀ D,G w D→_):=fun D k=>q1A D (a%10000000000000000000) eK (HT.out D k);have bn:(a/10000000000000000000=0→0<a%10000000000000000000):=by omega
    have ep:a/10000000000000000000<a:=Nat.div_lt_self cc eK;have I:Hid (∀ F v vp,G w F→Num F v (a/10000000000000000000)→SO F w.heap.size vp (A++[a%10000000000000000000])→Cut n w.heap.size w v vp F):=fun F v vp k h1 h2=>⟨_,_,h1,h2,rO B,by
     intro y hy;rcases List.mem_append.1 hy with hy|hy
     ·exact N y hy
     ·rw[List.mem_singleton] at hy;rw[hy];exact hr,Or.inr ⟨A,_,rfl,bn⟩,k⟩
    have gk:=hi9 ep;have gm:=hi9 ci;have am:Hid (SO wr w.heap.size u3 A):=O;have gg:Hid (A.length≤64*K):=cj en;clear HA al hr bn ep ci O B N M en ds cc;generalize hq:a/10000000000000000000=q at *;generalize hr:a%10000000000000000000=r at *;clear hq hr;go_wp2_with fail;refine eJ HD.out ?_;intro e w4 hs;obtain⟨v,rfl,g4,hv⟩:=hs;have HV:Hid (Num w4 v q):=hv;have cs:Hid _:=HF.out w4 (aa hG g4);clear hv HF HD;go_wp2_with fail;refine eJ cs.out ?_;rintro e w5 ⟨rfl,g5⟩;have cb:=aa g4 g5;have bu:(w5.alloc (.cells #[.string ⟨(Lib.decDigits r).toArray⟩] 9)).cell? ⟨w5.heap.size,0,none⟩=some (dtx r):=by simp [go_sem];rfl
    have gA:G w5 (w5.alloc (.cells #[.string ⟨(Lib.decDigits r).toArray⟩] 9)):=(ag _).alloc _;obtain⟨v6,F,fr,fv,bq,dq⟩:=q3t _ w.heap.size u3 A r (am.out.G (aa cb gA)) (G.size (aa hG (aa cb gA))) ⟨w5.heap.size,0,none⟩ bu (by have:=gg.out;omega);have bv:Num F v q:=bq _ _ (HV.out.G (aa g5 gA));have G6:G w F:=dq w (az _) (aa hG (aa cb gA));have hrel:=I.out F v v6 G6 bv fv;have fp:numV F v<a:=by rw[gE bv];exact gk.out
    have gl:=hi9 fp;clear cs am I HV bv fv bq dq bu fp;go_wp2_with (at_builtin;refine wpList_app _ rfl _ _ 123 rfl _ _ rfl rfl fr ?_);go_wp2_with fail
    go_roundw
    case rel=>exact hrel
    case measure=>rw[gm.out];exact gl.out
/-- The text of a fraction. -/
def qtx (q:Rat):List UInt8:=(if q.num<0 then [45] else [])++Lib.decDigits q.num.natAbs++(if q.den=1 then [] else 47::Lib.decDigits q.den)
theorem bytes_app (a b:List UInt8):(⟨a.toArray⟩++⟨b.toArray⟩:ByteArray)=⟨(a++b).toArray⟩:=by
 apply ByteArray.ext;simp
theorem txt_size (l:List UInt8):(⟨l.toArray⟩:ByteArray).size=l.length:=by show l.toArray.size=_;simp
set_option maxRecDepth 10000 in
theorem kY (w:World) (v:Value) (q:Rat) (K:Nat) (m:K≤400) (B:1≤K) (h:QIs w v q) (hb:QB q K) (W:P10 w):
  Calls Tryz.prog 10 #[v] w fun e J=>e= .returned (.string ⟨(qtx q).toArray⟩)∧G w J:=by
 obtain⟨a,k,c,U,D,c',rfl,h1,h2⟩:=h;have i:Hid (∀ A,G w A→Calls Tryz.prog 47 #[.slice a k c] A fun e J=>e= .returned (.string ⟨(Lib.decDigits q.num.natAbs).toArray⟩)∧G A J):=fun A g=>oh A _ _ K m B (h1.G g) hb.1 (W.G g);have H2:Hid (∀ A,G w A→q.den≠1→Calls Tryz.prog 47 #[.slice U D c'] A fun e J=>e= .returned (.string ⟨(Lib.decDigits q.den).toArray⟩)∧G A J):=fun A g C=>by
  have h:=oh A (.slice U D c') q.den K m B (by have h3:=h2.G g;unfold fT at h3;rw[if_neg C] at h3;exact h3) hb.2 (W.G g);exact h
 have E:D=0↔q.den=1:=by
  obtain⟨p2,j2,q2,e,E,-⟩:=gv h2;injection e with x1 x2 x3;rw[x2,E];unfold fT;have:=q.den_nz;split<;>omega
 have F:decide (0<D)=decide (q.den≠1):=by
  by_cases e:q.den=1
  ·rw[decide_eq_false (by have:=E.2 e;omega),decide_eq_false (by simpa using e)]
  ·rw[decide_eq_true (by have:=fun h=>e (E.1 h);omega),decide_eq_true e]
 have hX:(⟨(Lib.decDigits q.num.natAbs).toArray⟩:ByteArray).size≤25600:=by have:=lM hb.1 B;rw[txt_size];omega
 have hY:(⟨(Lib.decDigits q.den).toArray⟩:ByteArray).size≤25600:=by have:=lM hb.2 B;rw[txt_size];omega
 have HQ:Hid (∀ x y,x=(if q.num<0 then (⟨#[45]⟩++⟨(Lib.decDigits q.num.natAbs).toArray⟩:ByteArray) else ⟨(Lib.decDigits q.num.natAbs).toArray⟩)→y=(if q.den=1 then x else x++(⟨#[47]⟩++⟨(Lib.decDigits q.den).toArray⟩:ByteArray))→y=⟨(qtx q).toArray⟩):=by
  rintro x y rfl rfl;rw[show (⟨#[45]⟩:ByteArray)=⟨[45].toArray⟩ from rfl,show (⟨#[47]⟩:ByteArray)=⟨[47].toArray⟩ from rfl];unfold qtx;split<;>split<;>simp only[bytes_app,bW,List.append_nil,List.cons_append]
 generalize o:decide (q.num<0)=s at *;have j:=hi9 o;clear h1 h2 hb W E o;generalize (⟨(Lib.decDigits q.num.natAbs).toArray⟩:ByteArray)=X at *;generalize (⟨(Lib.decDigits q.den).toArray⟩:ByteArray)=Y at *;go_enter Tryz.func10,Tryz.ntmps10;go_wp2_with fail;obtain⟨w0,I,g0,ap,R0⟩:=fi w [.bool s,.slice a k c,.slice U D c'] 29;rw[I];clear I;refine Calls.mono (P:=Tryz.prog) (i.out w0 g0) ?_;rintro e A ⟨rfl,g1⟩;obtain⟨L,M,N,O,R,S⟩:=eX R0 (g1);have al:¬ 9223372036854775807<(⟨#[45]⟩:ByteArray).size+X.size:=by rw[show (⟨#[45]⟩:ByteArray).size=1 from rfl];omega
 have am:¬ 9223372036854775807<(⟨#[47]⟩:ByteArray).size+Y.size:=by rw[show (⟨#[47]⟩:ByteArray).size=1 from rfl];omega
 have an:¬ 9223372036854775807<X.size+(⟨#[47]⟩++Y:ByteArray).size:=by rw[ByteArray.size_append,show (⟨#[47]⟩:ByteArray).size=1 from rfl];omega
 have ao:¬ 9223372036854775807<(⟨#[45]⟩++X:ByteArray).size+(⟨#[47]⟩++Y:ByteArray).size:=by rw[ByteArray.size_append,ByteArray.size_append,show (⟨#[45]⟩:ByteArray).size=1 from rfl,show (⟨#[47]⟩:ByteArray).size=1 from rfl];omega
 clear i hX hY;have d:(q.den=1∧decide (0<D)=false)∨(q.den≠1∧decide (0<D)=true):=by
  rw[F];by_cases e:q.den=1
  ·exact Or.inl ⟨e,decide_eq_false (by simpa using e)⟩
  ·exact Or.inr ⟨e,decide_eq_true e⟩
 clear F;rcases d with ⟨C,Z⟩|⟨C,Z⟩
 all_goals
  cases s
 all_goals
  go_wp2_with fail
  try
   refine Calls.mono (P:=Tryz.prog) (H2.out A (aa g0 g1) C) ?_;rintro e w2 ⟨rfl,g2⟩;go_wp2_with fail
  go_ret;refine⟨congrArg (fun b=>Ending.returned (Value.string b)) (HQ.out _ _ rfl ?_),by first|exact aa g0 (aa g1 g2)|exact aa g0 g1⟩
  first
  |rw[if_pos (of_decide_eq_true j.out)]
   first|rw[if_pos C]|rw[if_neg C]
  |rw[if_neg (of_decide_eq_false j.out)]
   first|rw[if_pos C]|rw[if_neg C]
end Go.Proofs.YtfnkkkcojnffdaaGreatDoor.EN
namespace Go.Proofs.YtfnkkkcojnffdaaGreatDoor
open Go.ChangeShapes Go.WideShapes Go.ChangeAt Go.RowKit
open BN
/-- No word of 32 bits. -/
def noU4 (x:Value):Prop:=∀ m,x≠ .int .u32 m
theorem oZ {w:World} {v:Value} {n b:Nat} {l:List Value} (h:Num w v n) (r:Rec w b l) (M:∀ x∈l,noU4 x):∀ A:World,(∀ i k,i≠b→A.cell? ⟨i,k,none⟩=w.cell? ⟨i,k,none⟩)→w.heap.size≤A.heap.size→Num A v n:=by
 intro A L N;obtain⟨m,E,D,hv⟩:=h;refine⟨m,?_,D,hv⟩;rcases Sl.cases E with ⟨rfl,a,c,rfl⟩|⟨F,I,o,c,rfl,C,hb,K⟩
 ·exact⟨E.1,Or.inl ⟨rfl,a,c,rfl⟩⟩
 ·have B:I≠b:=by
   intro e;subst e;have J:=K 0 (bS.2 F);rw[r.cell] at J;exact M _ (cq J) _ rfl
  exact⟨E.1,Or.inr ⟨I,o,c,rfl,C,by omega,fun i hi=>by rw[L _ _ B];exact K i hi⟩⟩
/-- A byte as a cell. -/
def btv (b:UInt8):Value:= .int .u8 (b.toNat:Int)
/-- A slice of bytes of our own. -/
def BO (w:World) (A:Nat) (v:Value) (l:List UInt8):Prop:=EN.EO 5 noU4 w A v (l.map btv)
theorem BO.G {w B:World} {A:Nat} {v:Value} {l:List UInt8} (h:BO w A v l) (g:Go.Proofs.YtfnkkkcojnffdaaGreatDoor.G w B):BO B A v l:=EN.EO.G h g
theorem rG (w:World) (A:Nat) (v:Value) (l:List UInt8) (x:UInt8) (h:BO w A v l) (hb:A≤w.heap.size) (a:Addr) (D:w.cell? a=some (btv x)) (J:l.length≤100000):
  ∃ E C,(Builtin.append_ #[128,128] 128 #[v,.slice (some a) 1 1]).run Tryz.prog w= .ok E C∧BO C A E (l++[x])∧(∀ u n,Num w u n→Num C u n)∧∀ w0:World,w0.heap.size≤A→G w0 w→G w0 C:=by
 obtain⟨i,hi,B⟩:=bP.1 (show (Tryz.prog.info? 5).map (fun i=>(i.zero,i.size,i.bytes))=some (some (.int .u8 0),1,1) by kernel_rfl);simp only[Prod.mk.injEq] at B;obtain⟨E,C,h1,h2,h3,K⟩:=EN.eo_app (T:=128) (ok:=noU4) (x:=btv x) Tryz.underlying128 hi B.1 B.2.1 (by rw[B.2.2];omega) rfl (fun m e=>by cases e) (fun m e=>by cases e) rfl w A v (l.map btv) h hb a D (by rw[cg];omega);refine⟨E,C,h1,by unfold BO;rw[List.map_append];exact h2,?_,K⟩;rcases h3 with g|⟨g,L,N,F,M,I⟩
 ·exact fun _ _ h=>h.G g
 ·exact fun u n hu=>oZ hu N F _ M I
/-- The text of a whole number. -/
def ztx (s:Int):List UInt8:=(if s<0 then [45] else [])++Lib.decDigits s.natAbs
/-- What the first loop has done. -/
def Dig (n:Nat) (w:World) (vb va:Value) (wr:World):Prop:=
 ∃ (a:Nat) (l:List UInt8),Num wr va a∧BO wr w.heap.size vb l∧a≤n∧l.length≤(Lib.decDigits n).length∧(if a=0 then Lib.decDigits n=l.reverse else Lib.decDigits n=Lib.decDigits a++l.reverse)∧G w wr
theorem rP {n a:Nat} {l:List UInt8} (A:0<a) (h:Lib.decDigits n=Lib.decDigits a++l.reverse):
  (if a/10=0 then Lib.decDigits n=(l++[UInt8.ofNat (48+a%10)]).reverse else Lib.decDigits n=Lib.decDigits (a/10)++(l++[UInt8.ofNat (48+a%10)]).reverse)∧(l++[UInt8.ofNat (48+a%10)]).length≤(Lib.decDigits n).length:=by
 have key:(if a/10=0 then Lib.decDigits n=(l++[UInt8.ofNat (48+a%10)]).reverse else Lib.decDigits n=Lib.decDigits (a/10)++(l++[UInt8.ofNat (48+a%10)]).reverse):=by
  rw[h,List.reverse_append,List.reverse_singleton];split
  ·rw[Lib.decDigits_one eK,aU eK]
  ·rw[show Lib.decDigits a=Lib.decDigits (a/10)++[UInt8.ofNat (48+a%10)] from by rw[Lib.decDigits,dif_neg eK],dD]
 refine⟨key,?_⟩;split at key
 ·rw[key,List.length_reverse];exact az _
 ·rw[key];simp only[aG,List.length_reverse];omega
/-- A row of bytes of our own that may be written. -/
def R8 (w:World) (g:Nat) (m:List UInt8):Prop:=∃ A:Array Value,w.heap[g]? =some (.cells A 5 (0,0))∧∀ (k:Nat) (x:UInt8),m[k]? =some x→A[k]? =some (btv x)
theorem R8.cell {w:World} {g k:Nat} {m:List UInt8} (h:R8 w g m) {x:UInt8} (B:m[k]? =some x):w.cell? ⟨g,k,none⟩=some (btv x):=by
 obtain⟨A,h1,h2⟩:=h;simp only[World.cell?,h1];exact h2 k x B
theorem R8.free {w:World} {g k:Nat} {m:List UInt8} (h:R8 w g m):w.frozen? ⟨g,k,none⟩=false:=by
 obtain⟨A,h1,-⟩:=h;simp [World.frozen?,h1]
theorem R8.set {w:World} {g k:Nat} {m:List UInt8} (h:R8 w g m) (x:UInt8):R8 (w.setCell ⟨g,k,none⟩ (btv x)) g (m.set k x):=by
 obtain⟨C,h1,h2⟩:=h;refine⟨C.setIfInBounds k (btv x),?_,fun j y A=> ?_⟩
 ·simp only[World.setCell,dC,if_true,h1,ct];simp
 ·rw[List.getElem?_set] at A;rw[Array.getElem?_setIfInBounds];by_cases B:k=j
  ·subst B;rw[if_pos rfl] at A ⊢;by_cases D:k<m.length
   ·rw[if_pos D] at A;have E:=(bg.1 (h2 k _ (aE D))).1;rw[if_pos E,bO A]
   ·rw[if_neg D] at A;cases A
  ·rw[if_neg B] at A ⊢;exact h2 j y A
/-- i bytes have been swapped with those at the other end. -/
def Swp (l m:List UInt8) (i:Nat):Prop:=m.length=l.length∧∀ k,k<l.length→m[k]? =if k<i∨l.length-i≤k then l[l.length-1-k]? else l[k]?
theorem q19 (l:List UInt8):Swp l l 0:=⟨rfl,fun k A=>by rw[if_neg eK]⟩
theorem q18 {l m:List UInt8} {i:Nat} {x y:UInt8} (h:Swp l m i) (hi:i<l.length-1-i) (F:m[i]? =some x) (I:m[l.length-1-i]? =some y):Swp l ((m.set i y).set (l.length-1-i) x) (i+1):=by
 obtain⟨h1,h2⟩:=h;refine⟨by simp [h1],fun k E=> ?_⟩;have C:=h2 i eK;rw[if_neg eK,F] at C;have D:=h2 (l.length-1-i) eK;rw[if_neg eK,I] at D;rw[List.getElem?_set,List.getElem?_set,ax];by_cases c1:l.length-1-i=k
 ·rw[if_pos c1,if_pos eK,if_pos eK,C]
  congr 1;omega
 ·rw[if_neg c1];by_cases A:i=k
  ·rw[if_pos A,if_pos eK,if_pos eK,D]
   congr 1;omega
  ·rw[if_neg A,h2 k E];by_cases B:k<i∨l.length-i≤k
   ·rw[if_pos B,if_pos eK]
   ·rw[if_neg B,if_neg eK]
theorem q2d {l m:List UInt8} {i:Nat} (h:Swp l m i) (hi:¬ i<l.length-1-i):m=l.reverse:=by
 obtain⟨h1,h2⟩:=h;refine List.ext_getElem? fun k=> ?_;by_cases A:k<l.length
 ·rw[h2 k A,List.getElem?_reverse A];split
  ·rfl
  ·congr 1;omega
 ·rw[aZ eK,aZ (by simpa using A)]
/-- What the second loop has done. -/
def Rev (l:List UInt8) (g:Nat) (w:World) (A B:Value) (wr:World):Prop:=
 ∃ (i:Nat) (m:List UInt8),i≤l.length∧A= .int .i64 (i:Int)∧B= .int .i64 ((l.length:Int)-1-i)∧Swp l m i∧R8 wr g m∧G w wr
set_option maxRecDepth 10000 in
theorem q1I (w:World) (b o:Nat) (s:Int) (K:Nat) (hK:K≤800) (io:1≤K) (hs:s.natAbs<2^(32*K)) (hz:IntIs w b o s) (hh:b<w.heap.size):
  Calls Tryz.prog 75 #[.pointer (some ⟨b,o,none⟩),.int .i64 10] w fun e w'=>e= .returned (.string ⟨(ztx s).toArray⟩)∧G w w':=by
 have bu:(Lib.decDigits s.natAbs).length≤32*K:=EN.dec_len_le eK (ae hs (cT eK _));obtain⟨ng,v,a,⟨c1,c2,-,-⟩,hv,h1,h2⟩:=hz;have ha:=fP h1;have HV:Hid (Num w v a):=hv;obtain⟨la,Z,E,I⟩:=hv;obtain⟨pa,ca,rfl,-,-⟩:=fa Z;have h0:a=0↔la.length=0:=by rw[← I,fR E,List.length_eq_zero_iff]
 generalize la.length=j at *;clear Z E I;by_cases hj:j=0
 ·have ap:a=0:=h0.2 hj;have fv:s=0:=by omega
  have hd:(⟨(ztx s).toArray⟩:ByteArray)=⟨#[48]⟩:=by rw[fv];unfold ztx;rw[if_neg eK,bW];show (⟨(Lib.decDigits 0).toArray⟩:ByteArray)=_;rw[Lib.decDigits];rfl
  subst hj;rw[hd];clear HV h0 h1 h2 ha ap fv hd bu hs;go_enter Tryz.func75,Tryz.ntmps75;go_wp2_with fail;go_ret;exact⟨rfl,ag _⟩
 ·have t0:((j:Int)==0)=false:=by simp;omega
  have ap:0<a:=by have:=mt h0.1 hj;omega
  have an:Hid (ng=decide (s<0)):=by
   show ng=decide (s<0);rw[← h1];unfold sg;cases ng
   ·simp
   ·simp;omega
  have cc:a<2^(32*K):=by rw[ha];exact hs
  have dl:=hi9 (kC w (.slice pa j ca) a K eK HV.out cc);have cy:Hid (a<2^(32*K)):=cc;have HA:Hid (a=s.natAbs):=ha;have R:Hid (∀ k,k≤(Lib.decDigits a).length→k≤25600):=fun k hk=>by rw[ha] at hk;omega
  have cz:Hid (∀ w1,G w w1→w1.cell? ⟨b,o,none⟩=some (.bool ng)):=fun w1 g=>g.cell hh c1;have cs:Hid (0<a):=ap;clear HV h0 h1 h2 ha bu hs ap cc;go_enter Tryz.func75,Tryz.ntmps75;go_wp2_with fail;refine Calls.mono (P:=Tryz.prog) dl.out ?_;intro e w1 hs;obtain⟨v1,rfl,g1,fs⟩:=hs;have c:Dig a w (.slice none 0 0) v1 w1:=⟨a,[],fs,Or.inl ⟨rfl,rfl⟩,az _,bC _,by rw[if_neg (by have:=cs.out;omega)];simp,g1⟩;have U:=hi9 c;clear c dl fs g1 t0 c1 c2;go_wp2_with fail
  go_loopw [5,6,7] (fun vb va vr wr=>Dig a w vb va wr) (fun _ va _ wr=>numV wr va)
  case atStart=>exact U.out
  case round=>
   clear U;obtain⟨x,l,cn,D,bs,bn,A,hG⟩:=hrel;have cm:numV wr u6=x:=gE cn;have HX:Hid (Num wr u6 x):=cn;obtain⟨lx,Z,E,I⟩:=cn;obtain⟨px,cx,rfl,-,-⟩:=fa Z;have bq:x=0↔lx.length=0:=by rw[← I,fR E,List.length_eq_zero_iff]
   generalize lx.length=jx at *;clear Z E I;by_cases bl:jx=0
   ·obtain rfl:x=0:=bq.2 bl;subst bl;rw[if_pos rfl] at A;have hc:=cz.out wr hG;have M:Hid (Lib.decDigits a=l.reverse):=A;have L:Hid (l.length≤25600):=R.out _ bn;have ci:l≠[]:=fun e=>EN.dec_ne a (by rw[A,e];rfl);clear HX cm bq A bs bn R cz cs cy;cases ng
    case' false=>
     have HZ:Hid (ztx s=l.reverse∧l≠[]∧l.length≤25601):=⟨by
      have h1:=of_decide_eq_false an.out.symm;unfold ztx;rw[if_neg h1,bW,← HA.out];exact M.out,ci,by have:=L.out;omega⟩
     clear L ci M HA an;obtain⟨w9,ht⟩:∃ w9,w9=wr:=⟨wr,rfl⟩;subst ht;obtain⟨uv,hq⟩:∃ uv,uv=u5:=⟨u5,rfl⟩;subst hq
    case' true=>
     have F:(wr.alloc (.cells #[.int .u8 45] 5)).cell? ⟨wr.heap.size,0,none⟩=some (btv 45):=by simp [go_sem];rfl
     have gA:G wr (wr.alloc (.cells #[.int .u8 45] 5)):=(ag _).alloc _;obtain⟨uv,w9,O,N,-,dq⟩:=rG _ w.heap.size u5 l 45 (D.G gA) (G.size (aa hG gA)) ⟨wr.heap.size,0,none⟩ F (by have:=L.out;omega);have HZ:Hid (ztx s=(l++[45]).reverse∧l++[45]≠[]∧(l++[45]).length≤25601):=⟨by
      have h1:=of_decide_eq_true an.out.symm;unfold ztx;rw[if_pos h1,← HA.out,M.out,List.reverse_append];rfl,by simp,by have:=L.out;simp;omega⟩
     have hG:=dq w (az _) (aa hG gA);have D:=N;generalize l++[45]=l at *;clear dq N gA F L ci M HA an
    all_goals
     obtain⟨gf,gg,hw⟩:=HZ.out;have N:=D;rcases D with ⟨-,he⟩|⟨g,cap,hf,e,hg,cd,eb,-,hp,gd,-⟩
     ·exact absurd (List.map_eq_nil_iff.1 he) gg
     rw[cg] at e;subst e;have ds:R8 w9 g l:=⟨hf,cd,fun k x hk=>by
      have h1:(l.map btv)[k]? =some (btv x):=by rw[de,hk];rfl
      have hl:=(aV.1 h1).1;rw[← gd,cO,if_pos hl] at h1;simpa using h1⟩
     have c:Rev l g w (.int .i64 0) (.int .i64 ((l.length:Int)-1)) w9:=⟨0,l,bC _,rfl,congrArg (Value.int .i64) eK,q19 l,ds,hG⟩;have U:Hid (Rev l g w (.int .i64 0) (.int .i64 ((l.length:Int)-1)) w9):=c;have dk:Hid (w.heap.size≤g):=hg;have ii:Hid (g<w9.heap.size):=EN.heap_lt cd;have kr:(l.length:Int)≤25601:=by omega
     have gz:=hi9 gf;clear gf gg hw HZ N cd eb hp gd hg ds c;generalize en:l.length=n at *;have B:=hi9 en;clear en
     try
      go_wp2_with (at_builtin;refine EN.wpList_app _ rfl _ _ 128 rfl _ _ rfl rfl O ?_);clear O
     try go_wp2_with fail
     go_loopw [8,9] (fun vi vj wr=>Rev l g w vi vj wr) (fun vi vj _=>(intOf vj+1-intOf vi).toNat)
     case atStart=>exact U.out
     case round=>
      clear U;obtain⟨i,m,hi,rfl,rfl,al,hR,cb⟩:=hrel;have cl:m.length=n:=by rw[al.1];exact B.out
      rw[B.out] at hi ⊢;by_cases bi:i<n-1-i
      ·obtain⟨J,em,ce⟩:∃ J:Nat,(n:Int)-1-i=J∧J=n-1-i:=⟨n-1-i,by omega,rfl⟩;rw[em];have hx:m[i]? =some (m[i]'(by omega)):=aE _;have hy:m[J]? =some (m[J]'(by omega)):=aE _;generalize m[i]'(by omega)=x at *;generalize m[J]'(by omega)=y at *;have hm:=hR.cell hx;have hn:=hR.cell hy;have jp:=hR.free (k:=i);have ao:=hR.set (k:=i) y;have ho:=ao.free (k:=J);have ec:=ao.cell (k:=J) (x:=y) (by rw[List.getElem?_set,if_neg eK];exact hy);have dr:=ao.set (k:=J) x;have am:=q18 al (by rw[B.out];exact bi) hx (by rw[B.out,← ce];exact hy);rw[B.out,← ce] at am;have W:G w ((wr.setCell ⟨g,i,none⟩ (btv y)).setCell ⟨g,J,none⟩ (btv x)):=(cb.setCell dk.out _).setCell dk.out _;have C:Hid (Rev l g w (.int .i64 ((i:Int)+1)) (.int .i64 ((J:Int)-1)) ((wr.setCell ⟨g,i,none⟩ (btv y)).setCell ⟨g,J,none⟩ (btv x))):=⟨i+1,_,by rw[B.out];omega,rfl,congrArg (Value.int .i64) (by rw[B.out];omega),am,dr,W⟩;have ep:decide (i<J)=true:=decide_eq_true eK;have ka:(i:Int)<25601:=by omega
       have kp:(J:Int)<25601:=by omega
       have kk:1≤(J:Int):=by omega
       have kb:i<n:=by omega
       have ia:J<n:=by omega
       clear hx hy hR ao dr al am cb W cl bi em ce;unfold btv at hm hn ec ho C;generalize (x.toNat:Int)=X at *;generalize (y.toNat:Int)=Y at *;go_wp2_with fail;exact⟨C.out,by have:=of_decide_eq_true ep;simp only[intOf];omega⟩
      ·have fp:=q2d al (by rw[B.out];exact bi);rw[← gz.out] at fp;subst fp;have it:(convert 128 9 (.slice (some ⟨g,0,none⟩) n cap)).run Tryz.prog wr= .ok (.string ⟨(ztx s).toArray⟩) wr:=by
        have h:=run_convert_bytes_back (P:=Tryz.prog) wr 128 9 5 ⟨g,0,none⟩ cap (ztx s) eM eM eM (fun j hj=>by
         rw[Lib.add_plain,aD];exact hR.cell (aE hj))
        rw[cl] at h;exact h
       have ep:decide ((i:Int)<(n:Int)-1-i)=false:=decide_eq_false eK;clear hR al cl bi;generalize hS:(⟨(ztx s).toArray⟩:ByteArray)=S at *;have HS:=hi9 hS;clear hS;go_wp2_with fail;go_ret;exact⟨by rw[HS.out];rfl,cb⟩
   ·have cr:0<x:=by have:=mt bq.1 bl;omega
    have kq:decide (0<jx)=true:=decide_eq_true eK;rw[if_neg eK] at A;obtain⟨ed,ee⟩:=rP cr A;have HS:=hi9 (qj wr (.slice px jx cx) x 10 K eK eK eK HX.out (aq bs cy.out));have hr:x%10<10:=aX _ eK;have hle:x/10≤a:=bk (aN _ _) bs;have C:Hid (∀ w6 v vp,G w w6→Num w6 v (x/10)→BO w6 w.heap.size vp (l++[UInt8.ofNat (48+x%10)])→Dig a w vp v w6):=fun w6 v vp k h1 h2=>⟨_,_,h1,h2,hle,ee,ed,k⟩;have gl:Hid (x/10<x):=Nat.div_lt_self cr eK;have gn:=hi9 cm;have L:Hid (l.length≤25600):=R.out _ bn;have ea:btv (UInt8.ofNat (48+x%10))= .int .u8 (48+((x%10:Nat):Int)):=by
     unfold btv;rw[UInt8.toNat_ofNat']
     congr 1
     omega
    have gk:=hi9 ea;clear HX bq bl cr A ed ee hle cm bs bn ea;generalize x/10=q at *;generalize x%10=r at *;generalize UInt8.ofNat (48+r)=d at *;have ks:(r:Int)≤9:=by omega
    have ib:decide ((r:Int)<10)=true:=decide_eq_true eK;have ih:decide (r<10)=true:=decide_eq_true hr;clear hr;go_wp2_with fail;refine Calls.mono (P:=Tryz.prog) HS.out ?_;intro e w4 hs;obtain⟨v,rfl,g4,hv⟩:=hs;have HV:Hid (Num w4 v q):=hv;have F:(w4.alloc (.cells #[.int .u8 (48+(r:Int))] 5)).cell? ⟨w4.heap.size,0,none⟩=some (btv d):=by rw[gk.out];simp [go_sem]
    have gA:G w4 (w4.alloc (.cells #[.int .u8 (48+(r:Int))] 5)):=(ag _).alloc _;obtain⟨v6,w6,O,ga,bv,W⟩:=rG _ w.heap.size u5 l d (D.G (aa g4 gA)) (G.size (aa hG (aa g4 gA))) ⟨w4.heap.size,0,none⟩ F (by have:=L.out;omega);have bz:Num w6 v q:=bv _ _ (HV.out.G gA);have G6:G w w6:=W w (az _) (aa hG (aa g4 gA));have hrel:=C.out w6 v v6 G6 bz ga;have fr:numV w6 v<x:=by rw[gE bz];exact gl.out
    have gm:=hi9 fr;clear C HV bz ga bv W F fr hv HS;go_wp2_with (at_builtin;refine EN.wpList_app _ rfl _ _ 128 rfl _ _ rfl rfl O ?_);go_wp2_with fail
    go_roundw
    case rel=>exact hrel
    case measure=>rw[gn.out];exact gm.out
theorem mO (w:World) (b o:Nat) (s:Int) (K:Nat) (F:K≤800) (A:1≤K) (C:s.natAbs<2^(32*K)) (D:IntIs w b o s) (B:b<w.heap.size):
  Calls Tryz.prog 29 #[.pointer (some ⟨b,o,none⟩)] w fun e I=>e= .returned (.string ⟨(ztx s).toArray⟩)∧G w I:=by
 have E:=hi9 (q1I w b o s K F A C D B);generalize (⟨(ztx s).toArray⟩:ByteArray)=S at *;clear D C;go_enter Tryz.func29,Tryz.ntmps29;go_wp2_with fail;refine eJ E.out ?_;rintro e J ⟨rfl,g⟩;go_wp2_with fail;go_ret;exact⟨rfl,g⟩
theorem q1H (w:World) (b:Nat) (sa:Int) (d K:Nat) (U:K≤800) (O:1≤K) (F:0<d) (N:d<2^(32*K)) (h:RatIs w b sa (d:Int)) (hb:b<w.heap.size):
  Calls Tryz.prog 45 #[.pointer (some ⟨b,0,none⟩)] w fun e R=>e= .returned (.bool (decide (d=1)))∧G w R:=by
 have L:=hi9 (j0 w b sa (d:Int) eK h);have M:Hid (∀ A,Calls Tryz.prog 44 #[.int .i64 1] A (RetI A 1)):=fun A=>gY A 1 eK;have J:Hid (∀ A p,G w A→p<A.heap.size→IntIs A p 0 1→_):=fun A p g I hi=>lh A b 2 p 0 (d:Int) 1 K eK (by rw[ar];exact N) (by
  have:2^1≤2^(32*K):=ai eK eK;show 1<_;omega) (dp g hb) I (cD h.2 hb g) hi
 have B:(cmpI (d:Int) 1==0)=decide (d=1):=by
  unfold cmpI;rw[if_neg eK];by_cases e:d=1
  ·subst e;rfl
  ·rw[if_neg eK,decide_eq_false e];rfl
 have E:=hi9 B;generalize decide (d=1)=t at *;generalize cmpI (d:Int) 1=z at *;clear h N F;go_enter Tryz.func45,Tryz.ntmps45;go_wp2_with fail;refine eJ L.out ?_;rintro e A ⟨rfl,g1⟩;go_wp2_with fail;refine eJ (M.out _) ?_;rintro e S ⟨p,rfl,g2,I,C,hi⟩;have D:Hid _:=J.out S p (aa g1 g2) C hi;clear J M L hi I C;go_wp2_with fail;refine eJ D.out ?_;rintro e W ⟨rfl,g3⟩;go_wp2_with fail;go_ret;exact⟨by first|rfl|(rw[← E.out];rfl),aa g1 (aa g2 g3)⟩
/-- The text of a ratio. -/
theorem q3m (w:World) (b:Nat) (q:Rat) (K:Nat) (M:K≤800) (E:1≤K) (I:q.num.natAbs<2^(32*K)) (J:q.den<2^(32*K)) (h:RatIs w b q.num (q.den:Int)) (hb:b<w.heap.size):
  Calls Tryz.prog 9 #[.pointer (some ⟨b,0,none⟩)] w fun e U=>e= .returned (.string ⟨(EN.qtx q).toArray⟩)∧G w U:=by
 have B:∀ n:Nat,n<2^(32*K)→(Lib.decDigits n).length≤32*K:=fun n I=>EN.dec_len_le eK (ae I (cT eK _));have C:=hi9 (q1H w b q.num q.den K M E q.den_pos J h hb);have L:Hid (∀ A,G w A→_):=fun A g=>mO A b 0 q.num K M E I (cD h.1 hb g) (dp g hb);have W:Hid (∀ A,G w A→_):=fun A g=>mO A b 2 (q.den:Int) K M E (by rw[ar];exact J) (cD h.2 hb g) (dp g hb);have F:Hid (∀ A,G w A→_):=fun A g=>j0 A b q.num (q.den:Int) (by have:=q.den_pos;omega) (RatIs.G h hb g);have h1:=B _ I;have h2:=B _ J;have S:(⟨(ztx q.num).toArray⟩:ByteArray).size≤25601:=by
  rw[EN.txt_size];unfold ztx;rw[aG];split<;>simp <;>omega
 have R:(⟨(ztx (q.den:Int)).toArray⟩:ByteArray).size≤25601:=by
  rw[EN.txt_size];unfold ztx;rw[if_neg eK,bW,ar];omega
 have Z:Hid (∀ y,y=(if q.den=1 then (⟨(ztx q.num).toArray⟩:ByteArray) else (⟨(ztx q.num).toArray⟩++⟨#[47]⟩)++⟨(ztx (q.den:Int)).toArray⟩)→y=⟨(EN.qtx q).toArray⟩):=by
  rintro y rfl;rw[show (⟨#[47]⟩:ByteArray)=⟨[47].toArray⟩ from rfl];unfold EN.qtx ztx;split
  ·rw[List.append_nil]
  ·rw[if_neg (show ¬ ((q.den:Int)<0) by omega),bW,ar,EN.bytes_app,EN.bytes_app,dD _ [47],List.singleton_append]
 have N:¬ 9223372036854775807<(⟨(ztx q.num).toArray⟩:ByteArray).size+(⟨#[47]⟩:ByteArray).size:=by rw[show (⟨#[47]⟩:ByteArray).size=1 from rfl];omega
 have O:¬ 9223372036854775807<(⟨(ztx q.num).toArray⟩++⟨#[47]⟩:ByteArray).size+(⟨(ztx (q.den:Int)).toArray⟩:ByteArray).size:=by rw[ByteArray.size_append,show (⟨#[47]⟩:ByteArray).size=1 from rfl];omega
 generalize (⟨(ztx q.num).toArray⟩:ByteArray)=X at *;generalize (⟨(ztx (q.den:Int)).toArray⟩:ByteArray)=Y at *;clear h1 h2 S R B h J I;by_cases D:q.den=1
 ·rw[show decide (q.den=1)=true from decide_eq_true D] at C;go_enter Tryz.func9,Tryz.ntmps9;go_wp2_with fail;refine eJ C.out ?_;rintro e A ⟨rfl,g1⟩;go_wp2_with fail;refine eJ (L.out _ g1) ?_;rintro e c ⟨rfl,g2⟩;go_wp2_with fail;go_ret;exact⟨congrArg (fun b=>Ending.returned (Value.string b)) (Z.out _ (by rw[if_pos D])),aa g1 g2⟩
 ·rw[show decide (q.den=1)=false from decide_eq_false D] at C;have d:Hid (∀ A,G w A→Calls Tryz.prog 46 #[.pointer (some ⟨b,0,none⟩)] A fun e U=>e= .returned (.string ((X++⟨#[47]⟩)++Y))∧G A U):=by
   intro A g1;go_enter Tryz.func46,Tryz.ntmps46;go_wp2_with fail;refine eJ (L.out _ g1) ?_;rintro e c ⟨rfl,g2⟩;go_wp2_with fail;refine eJ (F.out _ (aa g1 g2)) ?_;rintro e i ⟨rfl,g3⟩;go_wp2_with fail;refine eJ (W.out _ (aa g1 (aa g2 g3))) ?_;rintro e j ⟨rfl,g4⟩;go_wp2_with fail;go_ret;exact⟨rfl,aa g2 (aa g3 g4)⟩
  clear L W F N O;go_enter Tryz.func9,Tryz.ntmps9;go_wp2_with fail;refine eJ C.out ?_;rintro e A ⟨rfl,g1⟩;go_wp2_with fail;refine eJ (d.out _ g1) ?_;rintro e c ⟨rfl,g2⟩;go_wp2_with fail;go_ret;exact⟨congrArg (fun b=>Ending.returned (Value.string b)) (Z.out _ (by rw[if_neg D])),aa g1 g2⟩
end Go.Proofs.YtfnkkkcojnffdaaGreatDoor
namespace Go.Proofs.YtfnkkkcojnffdaaGreatDoor.EN
open Go.ChangeShapes Go.WideShapes Go.ChangeAt Go.RowKit
/-- A store of a function. -/
theorem q15 (P:Program) (w:World) (a:Addr) (m:Mode) (fn:Fn) (x y:Array Value):(store a (.func fn x y) m).run P w=stored P w a (.func fn x y) m:=run_store P w a _ m rfl
attribute [local go_sem] q15
/-- A power, the exponent of any sign. -/
def pwr (b:Nat) (e:Int):Rat:=mkRat ((b^e.toNat:Nat):Int) (b^(-e).toNat)
theorem mq {b:Nat} (hb:2≤b) (e:Int):(pwr b e).num=((b^e.toNat:Nat):Int)∧(pwr b e).den=b^(-e).toNat:=by
 refine rat_low (Nat.pow_pos eK) ?_ (mk_cross (Nat.pow_pos eK) rfl);rw[ar];by_cases h:e<0
 ·rw[show e.toNat=0 from by omega,bH,Nat.gcd_one_left]
 ·rw[show (-e).toNat=0 from by omega,bH,cS]
theorem q1n:Lib.decDigits 1=[49]:=by rw[Lib.decDigits];rfl
theorem q1X {b:Nat} (hb:2≤b) (e:Int):qtx (pwr b e)=(if e<0 then [49,47] else [])++ztx ((b^e.natAbs:Nat):Int):=by
 obtain⟨h1,h2⟩:=mq hb e;unfold qtx ztx;have A:∀ m:Nat,¬ ((m:Int)<0):=fun m=>by omega
 rw[h1,h2,ar,ar,if_neg (A _),if_neg (A _),bW,bW];by_cases h:e<0
 ·have B:(-e).toNat=e.natAbs:=by omega
  have h3:b^e.natAbs≠1:=by
   have:b^1≤b^e.natAbs:=ai eK eK;rw[Nat.pow_one] at this;omega
  rw[show e.toNat=0 from by omega,bH,B,if_neg h3,if_pos h,q1n];rfl
 ·rw[show (-e).toNat=0 from by omega,bH,if_pos rfl,if_neg eK,show e.toNat=e.natAbs from by omega,List.append_nil,bW]
theorem q1W (e:Int):mk2 1 e=pwr 2 e:=by unfold mk2 pwr;rw[Int.one_mul]
theorem p8 {b n m:Nat} (hb:b≤2^m):b^n<2^(m*n+1):=by
 have h:=cT hb n;rw[← Nat.pow_mul] at h;exact aq h (cF eK eK)
theorem q0F {b m K:Nat} (hb:2≤b) (A:b≤2^m) (e:Int) (C:m*e.natAbs+1≤64*K):QB (pwr b e) K:=by
 obtain⟨h1,h2⟩:=mq hb e;have key:∀ n,n≤e.natAbs→b^n<2^(64*K):=fun n B=>by
  refine ae (p8 A) (ai eK ?_);have:=aA m B;omega
 unfold QB;rw[h1,h2,ar];exact⟨key _ eK,key _ eK⟩
theorem jW:qtx 0=[48]:=by
 unfold qtx;rw[show (0:Rat).num=0 from rfl,show (0:Rat).den=1 from rfl,if_neg eK,if_pos rfl];show []++Lib.decDigits 0++[]=_;rw[Lib.decDigits];rfl
theorem q0C {b:Nat} (hb:2≤b) (e:Int):(e<0→(⟨(qtx (pwr b e)).toArray⟩:ByteArray)=(⟨#[49,47]⟩:ByteArray)++⟨(ztx ((b^e.natAbs:Nat):Int)).toArray⟩)∧(¬ e<0→(⟨(qtx (pwr b e)).toArray⟩:ByteArray)=⟨(ztx ((b^e.natAbs:Nat):Int)).toArray⟩):=by
 rw[q1X hb];refine⟨fun h=> ?_,fun h=> ?_⟩
 ·rw[if_pos h,show (⟨#[49,47]⟩:ByteArray)=⟨[49,47].toArray⟩ from rfl,bytes_app]
 ·rw[if_neg h,bW]
theorem q0B {Z K:Nat} (B:K≤800) (A:1≤K) (h:Z<2^(32*K)):¬ 9223372036854775807<(⟨#[49,47]⟩:ByteArray).size+(⟨(ztx (Z:Int)).toArray⟩:ByteArray).size:=by
 have C:=dec_len_le (k:=32*K) (w:=Z) eK (ae h (cT eK _));rw[show (⟨#[49,47]⟩:ByteArray).size=2 from rfl,txt_size];unfold ztx;rw[if_neg eK,bW,ar];omega
set_option maxHeartbeats 1000000 in
set_option maxRecDepth 10000 in
theorem q0D (w:World) (e:Int) (h1: -9223372036854775808≤e) (h2:e<9223372036854775808) (hT:P10 w):
  Calls Tryz.prog 38 #[.int .i64 e] w fun r w'=>r= .returned (.bool true)∧G w w':=by
 have HT:Hid (∀ w1,G w w1→P10 w1):=fun w1 g=>hT.G g;obtain⟨KK,ep⟩:∃ KK,KK=252:=⟨_,rfl⟩;clear hT;go_enter Tryz.func38,Tryz.ntmps38;go_wp2_with fail;have I:Hid (Rec (w.alloc (.cells #[.int .i64 2,.int .i64 5000,.func (.func 85) #[] #[],.int .i64 10,.int .i64 2000,.func (.func 86) #[] #[]] 100)) w.heap.size [.int .i64 2,.int .i64 5000,.func (.func 85) #[] #[],.int .i64 10,.int .i64 2000,.func (.func 86) #[] #[]]):=⟨100,by simp only[World.alloc];exact dt⟩;have ga:G w (w.alloc (.cells #[.int .i64 2,.int .i64 5000,.func (.func 85) #[] #[],.int .i64 10,.int .i64 2000,.func (.func 86) #[] #[]] 100)):=(ag _).alloc _;generalize w.alloc (.cells #[.int .i64 2,.int .i64 5000,.func (.func 85) #[] #[],.int .i64 10,.int .i64 2000,.func (.func 86) #[] #[]] 100)=w1 at *;generalize w.heap.size=B at *;have bl:Hid (G w w1):=ga;clear ga
 go_loopw [13] (fun vi wr=>∃ i:Nat,i≤2∧vi= .int .i64 (i:Int)∧G w1 wr) (fun vi _=>(3-intOf vi).toNat)
 case atStart=>exact⟨0,by omega,rfl,ag _⟩
 case round=>
  obtain⟨i,hi,rfl,hG⟩:=hrel;have dl:i=2∨i=0∨i=1:=by omega
  rcases dl with rfl|rfl|rfl
  ·have g2:=aa bl.out hG;go_wp2_with fail;go_ret;exact⟨rfl,g2⟩
  case' inr.inl=>
   obtain⟨C,A,D,W⟩:∃ C A:Nat,C=2∧A=5000:=⟨_,_,rfl,rfl⟩;have c0:wr.cell? ⟨B,0,none⟩=some (.int .i64 (C:Int)):=by rw[D];exact(aM I.out hG).cell 0
   have c1:wr.cell? ⟨B,1,none⟩=some (.int .i64 (A:Int)):=by rw[W];exact(aM I.out hG).cell 1
   have c2:wr.cell? ⟨B,2,none⟩=some (.func (.func 85) #[] #[]):=(aM I.out hG).cell 2;have hb:2≤C∧C≤10∧A≤5000:=by omega
   have bv:¬ (e< -(A:Int)∨(A:Int)<e)→QB (pwr C e) 126∧C^e.natAbs<2^(32*KK):=fun h=>⟨q0F hb.1 (m:=1) (by rw[D];decide) e eK,ae (p8 (m:=1) (by rw[D];decide)) (ai eK eK)⟩;obtain⟨q,c,M,N⟩:∃ (q:Rat) (c:Int),(∀ R,Calls Tryz.prog 85 #[.int .i64 e] R (gM R q c))∧((c=3∧q=0∧(e< -(A:Int)∨(A:Int)<e))∨(c=0∧q=pwr C e∧¬ (e< -(A:Int)∨(A:Int)<e))):=by
    by_cases h:e< -(A:Int)∨(A:Int)<e
    ·exact⟨0,3,fun R=>rq R e eK,Or.inl ⟨rfl,rfl,h⟩⟩
    ·exact⟨_,0,fun R=>q3T R e eK eK,Or.inr ⟨rfl,by rw[D];exact q1W e,h⟩⟩
   clear D W
  case' inr.inr=>
   obtain⟨C,A,D,W⟩:∃ C A:Nat,C=10∧A=2000:=⟨_,_,rfl,rfl⟩;have c0:wr.cell? ⟨B,3,none⟩=some (.int .i64 (C:Int)):=by rw[D];exact(aM I.out hG).cell 3
   have c1:wr.cell? ⟨B,4,none⟩=some (.int .i64 (A:Int)):=by rw[W];exact(aM I.out hG).cell 4
   have c2:wr.cell? ⟨B,5,none⟩=some (.func (.func 86) #[] #[]):=(aM I.out hG).cell 5;have hb:2≤C∧C≤10∧A≤5000:=by omega
   have bv:¬ (e< -(A:Int)∨(A:Int)<e)→QB (pwr C e) 126∧C^e.natAbs<2^(32*KK):=fun h=>⟨q0F hb.1 (m:=4) (by rw[D];decide) e eK,ae (p8 (m:=4) (by rw[D];decide)) (ai eK eK)⟩;obtain⟨q,c,M,N⟩:∃ (q:Rat) (c:Int),(∀ R,Calls Tryz.prog 86 #[.int .i64 e] R (gM R q c))∧((c=3∧q=0∧(e< -(A:Int)∨(A:Int)<e))∨(c=0∧q=pwr C e∧¬ (e< -(A:Int)∨(A:Int)<e))):=by
    by_cases h:e< -(A:Int)∨(A:Int)<e
    ·exact⟨0,3,fun R=>rm R e eK,Or.inl ⟨rfl,rfl,h⟩⟩
    ·exact⟨_,0,fun R=>q3S R e eK eK,Or.inr ⟨rfl,by rw[D];rfl,h⟩⟩
   clear D W
  all_goals
   have HC:=hi9 M;have J:=hi9 N;have y:=hi9 bv;have ao:=hi9 hb;have fv:(C:Int)≤10:=by omega
   have gd:(A:Int)≤5000:=by omega
   clear M N bv hb;go_wp2_with fail;have an:Hid (∀ X,Rec (wr.alloc (.cells #[.int .i64 (C:Int),.int .i64 (A:Int),X] 100)) wr.heap.size [.int .i64 (C:Int),.int .i64 (A:Int),X]):=fun X=>⟨100,by simp only[World.alloc];exact dt⟩;refine eJ (HC.out _) ?_;intro r U hs;obtain⟨v,rfl,g4,hq⟩:=hs;have bz:=aM (an.out _) g4;have L:Hid (G w1 U):=aa hG (aa ((ag _).alloc _) g4);have dq:U.cell? ⟨wr.heap.size,0,none⟩=some (.int .i64 (C:Int)):=bz.cell 0;have dr:U.cell? ⟨wr.heap.size,1,none⟩=some (.int .i64 (A:Int)):=bz.cell 1;have HQ:Hid (QIs U v q):=hq;obtain⟨a,k,d,a',k',d',rfl,h1,h2⟩:=hq;clear h1 h2 an HC bz c0 c1 c2;generalize decide (q.num<0)=t0 at *;have f0:=Lib.cell?_alloc_some (.cells #[.bool t0,.slice a k d,.slice a' k' d'] 29) dq;have f1:=Lib.cell?_alloc_some (.cells #[.bool t0,.slice a k d,.slice a' k' d'] 29) dr;generalize wr.heap.size=BK at *;clear hG g4 dq dr;rcases J.out with ⟨hc,hq,h⟩|⟨hc,hq,h⟩
   ·subst hc hq;have cz:Hid (∀ O,G U O→Calls Tryz.prog 10 #[.agg #[.bool t0,.slice a k d,.slice a' k' d']] O fun e w'=>e= .returned (.string ⟨#[48]⟩)∧G O w'):=fun O g=>by
     have h:=kY O _ 0 1 eK eK (HQ.out.G g) ⟨by decide,by decide⟩ (HT.out _ (aa bl.out (aa L.out g)));rw[jW] at h;exact h
    rcases h with h|h
    ·have ht:(e< -(A:Int))=True:=eq_true h;clear HQ J y;go_wp2_with fail;refine eJ (cz.out _ ((ag _).alloc _)) ?_;rintro r O ⟨rfl,g5⟩;go_wp2_with fail
     first|exact⟨⟨1,by omega,rfl,aa L.out (aa ((ag _).alloc _) g5)⟩,by decide⟩|exact⟨⟨2,by omega,rfl,aa L.out (aa ((ag _).alloc _) g5)⟩,by decide⟩
    ·have ht:(e< -(A:Int))=False:=eq_false eK;have fr:((A:Int)<e)=True:=eq_true h;clear HQ J y;go_wp2_with fail;refine eJ (cz.out _ ((ag _).alloc _)) ?_;rintro r O ⟨rfl,g5⟩;go_wp2_with fail
     first|exact⟨⟨1,by omega,rfl,aa L.out (aa ((ag _).alloc _) g5)⟩,by decide⟩|exact⟨⟨2,by omega,rfl,aa L.out (aa ((ag _).alloc _) g5)⟩,by decide⟩
   ·subst hc;have ht:(e< -(A:Int))=False:=eq_false eK;have fr:((A:Int)<e)=False:=eq_false eK;have f2:=Lib.cell?_alloc_some (.cells #[.bool false,.slice none 0 0] 43) f0;have cs:Hid (Rec (U.alloc (.cells #[.bool t0,.slice a k d,.slice a' k' d'] 29)) U.heap.size [.bool t0,.slice a k d,.slice a' k' d']):=Rec.new3 _ _ _ _ _;have gA:G U (U.alloc (.cells #[.bool t0,.slice a k d,.slice a' k' d'] 29)):=(ag _).alloc _;have ee:(U.alloc (.cells #[.bool t0,.slice a k d,.slice a' k' d'] 29)).heap.size=U.heap.size+1:=by simp only[World.alloc,Array.size_push]
    go_wp2_with fail;generalize U.alloc (.cells #[.bool t0,.slice a k d,.slice a' k' d'] 29)=E at *;rw[← ee];have HZ:Hid (NI E _ E.heap.size 0):=eu (ag E) 43;have g6:G E _:=(ag E).alloc (.cells #[.bool false,.slice none 0 0] 43);generalize E.alloc (.cells #[.bool false,.slice none 0 0] 43)=w6 at *;have cn:Hid (QIs E _ q):=HQ.out.G gA;have K:Hid (G w1 E):=aa L.out gA;have ap:Hid (G E w6):=g6;generalize U.heap.size=BN at *;generalize E.heap.size=BZ at *;clear HQ L gA ee g6;obtain⟨ds,am⟩:=y.out h;obtain⟨ec,ed⟩:=q0C ao.out.1 e;have ea:∀ O,G E O→Calls Tryz.prog 10 #[.agg #[.bool t0,.slice a k d,.slice a' k' d']] O fun r w'=>r= .returned (.string ⟨(qtx (pwr C e)).toArray⟩)∧G O w':=fun O g=>kY O _ _ 126 eK eK (by rw[← hq];exact cn.out.G g) ds (HT.out _ (aa bl.out (aa K.out g)));have en:2^13≤2^(32*KK):=ai eK eK;have hex:∀ s p p2,G E s→NI E s BZ 0→NI E s p (C:Int)→NI E s p2 (e.natAbs:Int)→_:=fun s p p2 g x1 x2 x3=>q2M E s g BZ p p2 C e.natAbs KK eK eK (by have:=ao.out.2.1;omega) (by have:=ao.out.1;omega) eK eK am x1 x2 x3;have eb:∀ w9,IntIs w9 BZ 0 ((C^e.natAbs:Nat):Int)→BZ<w9.heap.size→_:=fun w9 x1 x2=>mO w9 BZ 0 ((C^e.natAbs:Nat):Int) KK eK eK (by rw[ar];exact am) x1 x2;have gk:=q0B eK eK am;generalize (⟨(qtx (pwr C e)).toArray⟩:ByteArray)=T at *;generalize C^e.natAbs=Z at *;generalize (⟨(ztx (Z:Int)).toArray⟩:ByteArray)=S at *;have bn:Hid (e<0→_):=ec;have bq:Hid (¬ e<0→_):=ed;have al:Hid (∀ O,G E O→_):=ea;have cm:Hid (∀ s p p2,G E s→_):=hex;have cy:Hid (∀ w9,IntIs w9 _ _ _→_):=eb
    have gf:max e (-e)=(e.natAbs:Int):=by omega
    have gg:(e.natAbs:Int)≤5000:=by omega
    clear ec ed ea hex eb en am ds hq y J cn HT ep;refine eJ (gY w6 (C:Int) eK) ?_;rintro r w7 ⟨p,rfl,g7,Y,j,o⟩;have HX:Hid (NI E w7 p (C:Int)):=⟨bk ap.out.size Y,j,o⟩;have bi:Hid (G E w7):=aa ap.out g7;have dk:Hid (NI E w7 BZ 0):=HZ.out.G g7;clear ap HZ Y j o g7;go_wp2_with fail;refine eJ (gY w7 (e.natAbs:Int) eK) ?_;rintro r s ⟨p2,rfl,g8,Y,j,o⟩;have HE:=hi9 (cm.out s p p2 (aa bi.out g8) (dk.out.G g8) (HX.out.G g8) ⟨bk bi.out.size Y,j,o⟩);clear cm HX bi dk Y j o g8;go_wp2_with fail;refine eJ HE.out ?_;rintro r w9 ⟨rfl,g9,ca⟩;have cx:=hi9 (cy.out w9 ca.2.2 ca.2.1);clear HE cy ca;go_wp2_with fail;refine eJ cx.out ?_;rintro r em ⟨rfl,g10⟩;have bu:=aa g9 g10;have F:Hid (G E em):=bu;have cr:Hid (Rec em BN _):=aM cs.out bu;clear cx g9 g10 bu cs;obtain⟨cb,cc,cd,ce,ci,cl⟩:=eX cr (ag _);by_cases hn:e<0
    ·have fp:(e<0)=True:=eq_true hn;have ht:=bn.out hn;rw[ht] at al;clear ht bn bq;go_wp2_with fail;refine eJ (al.out _ F.out) ?_;rintro r fs ⟨rfl,g11⟩;go_wp2_with fail
     first|exact⟨⟨1,by omega,rfl,aa K.out (aa F.out g11)⟩,by decide⟩|exact⟨⟨2,by omega,rfl,aa K.out (aa F.out g11)⟩,by decide⟩
    ·have fp:(e<0)=False:=eq_false hn;have ht:=bq.out eK;rw[ht] at al;clear ht bn bq;go_wp2_with fail;refine eJ (al.out _ F.out) ?_;rintro r fs ⟨rfl,g11⟩;go_wp2_with fail
     first|exact⟨⟨1,by omega,rfl,aa K.out (aa F.out g11)⟩,by decide⟩|exact⟨⟨2,by omega,rfl,aa K.out (aa F.out g11)⟩,by decide⟩
end Go.Proofs.YtfnkkkcojnffdaaGreatDoor.EN
