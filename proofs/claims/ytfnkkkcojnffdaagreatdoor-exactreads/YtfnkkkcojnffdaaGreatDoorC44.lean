/- What is proved here: maps with few entries, in whatever order these were put in, over this seat's translation.
What is proved here: the two maps of the reference's reader of fractions: what they say, over this seat's translation.
What is proved here: contracts of the reference's reader of fractions: how far a text goes that is written by states, over this seat's translation.
What is proved here: what holds between the operations of a region that makes two maps and puts entries in, in whatever order, over this seat's translation.
What is proved here: what holds between the operations of the region in which the reference's reader of fractions makes its maps, over this seat's translation.
What is proved here: the reference's reader of fractions: what it refuses, over this seat's translation.
What is proved here: the library's Cut at a bar, over this seat's translation. -/
import Derived.Test.YtfnkkkcojnffdaaGreatDoorC1
import Derived.Test.YtfnkkkcojnffdaaGreatDoorC43
import Derived.Maps.Keyed
import Derived.DeepKeys3
import Derived.Test.YtfnkkkcojnffdaaGreatDoorC8
import Derived.BigQuiet
import Derived.Test.YtfnkkkcojnffdaaGreatDoorC41
import Derived.Test.YtfnkkkcojnffdaaGreatDoorC23
import Derived.Test.YtfnkkkcojnffdaaGreatDoorC3
import Derived.Test.YtfnkkkcojnffdaaGreatDoorC40
namespace Go.Proofs.YtfnkkkcojnffdaaGreatDoor.EN
open Go.ChangeShapes Go.WideShapes Go.ChangeAt Go.RowKit
/-- What is asked of the keys of a map's type. -/
structure KL (k:TypeId) (dom:Value→Prop):Prop where
 check:∀ (w:World) (em:Bool) {v:Value},dom v→(Instr.checkKey em 10000 k v).run Tryz.prog w= .ok () w
 find:∀ (w:World) {x:Value},dom x→∀ es:List MapEntry,(∀ e∈es,dom e.key)→
  ((Instr.findKey k x es).run Tryz.prog w= .ok none w∧∀ e∈es,e.key≠x)∨∃ j e,(Instr.findKey k x es).run Tryz.prog w= .ok (some (j,e.val)) w∧es[j]? =some e∧e.key=x
/-- Block b is a map of these entries. -/
def MapIs (w:World) (b:Nat) (A:List (Value×Value)):Prop:=∃ es B,w.heap[b]? =some (.map es B)∧(∀ e∈es.toList,(e.key,e.val)∈A)∧∀ x∈A,∃ e∈es.toList,e.key=x.1∧e.val=x.2
theorem MapIs.lt {w:World} {b:Nat} {A:List (Value×Value)} (h:MapIs w b A):b<w.heap.size:=by
 obtain⟨es,B,h,-⟩:=h;exact(aT.1 h).1
theorem MapIs.heap {w w':World} {b:Nat} {A:List (Value×Value)} (h:MapIs w b A) (e:w'.heap[b]? =w.heap[b]?):MapIs w' b A:=by
 obtain⟨es,B,h,h2⟩:=h;exact⟨es,B,by rw[e];exact h,h2⟩
theorem MapIs.G {w w':World} {b:Nat} {A:List (Value×Value)} (h:MapIs w b A) (g:G w w'):MapIs w' b A:=by
 obtain⟨-,-,-,g4,g5⟩:=id g;exact h.heap (g5 _ h.lt)
/-- A key that is there. -/
theorem nF {t k e:TypeId} {A:Value→Prop} (K:KL k A) (O:Tryz.prog.underlying t=some (.map k e)) {w:World} {b:Nat} {B:List (Value×Value)} (h:MapIs w b B) (J:∀ x∈B,A x.1) (N:∀ x∈B,∀ y∈B,x.1=y.1→x.2=y.2)
  {key v:Value} (F:A key) (I:(key,v)∈B) (c:Bool):(Instr.lookup t (.map (some b)) key c).run Tryz.prog w= .ok (if c then .tuple #[v,.bool true] else v) w:=by
 obtain⟨es,S,hb,h1,h2⟩:=h;obtain⟨e0,C,D,R⟩:=h2 _ I;rcases K.find w F es.toList (fun e M=>J _ (h1 e M)) with ⟨f1,f2⟩|⟨j,E,f1,f2,f3⟩
 ·exact absurd D (f2 e0 C)
 ·have hv:E.val=v:=N _ (h1 E (bH f2)) _ I f3;rw[← hv];simp [Instr.lookup,run_underlying O,MapKept.run_getObj_map hb,K.check w _ F,f1,Result.andThen]
/-- A key that isn't there. -/
theorem lD {t k e:TypeId} {A:Value→Prop} (K:KL k A) (I:Tryz.prog.underlying t=some (.map k e)) {z:Value} {w:World} (M:(zeroValue e).run Tryz.prog w= .ok z w) {b:Nat} {B:List (Value×Value)} (h:MapIs w b B) (E:∀ x∈B,A x.1)
  {key:Value} (C:A key) (J:∀ x∈B,x.1≠key) (c:Bool):(Instr.lookup t (.map (some b)) key c).run Tryz.prog w= .ok (if c then .tuple #[z,.bool false] else z) w:=by
 obtain⟨es,N,hb,h1,h2⟩:=h;rcases K.find w C es.toList (fun e F=>E _ (h1 e F)) with ⟨f1,f2⟩|⟨j,D,f1,f2,f3⟩
 ·simp [Instr.lookup,run_underlying I,MapKept.run_getObj_map hb,K.check w _ C,f1,M,Result.andThen]
 ·exact absurd f3 (J _ (h1 D (bH f2)))
/-- A key of two numbers. -/
def kp (a b:Nat):Value:= .agg #[.int .i64 (a:Int),.int .i64 (b:Int)]
theorem my {a b c d:Nat} (h:kp a b=kp c d):a=c∧b=d:=by
 unfold kp at h;injection h with h;injection h with h;injection h with h1 h2;injection h2 with h2 h3;injection h1 with h1 A;injection h2 with B h6;omega
def domA (v:Value):Prop:=∃ l,keyOf Tryz.prog 110 v=some l
def domB (v:Value):Prop:=∃ l,keyOf Tryz.prog 3 v=some l
theorem kl_a:KL 110 domA:=by
 have K:=deep_law (P:=Tryz.prog) (k:=110) (m:=2) dT dV dV dV;exact⟨fun w A v ⟨l,h⟩=>K.check w A h,fun w x ⟨l,h⟩ es B=>K.find w h es B⟩
theorem kl_b:KL 3 domB:=by
 have K:=Go.Maps.int_keyed (P:=Tryz.prog) (k:=3) Tryz.underlying3;exact⟨fun w A v ⟨l,h⟩=>K.check w A h,fun w x ⟨l,h⟩ es B=>K.find w h es B⟩
theorem nP {α:Type} {o:Option α} (h:o.isSome=true):∃ l,o=some l:=Option.isSome_iff_exists.1 h
theorem q0A:((List.range 5).all fun a=>(List.range 5).all fun b=>(keyOf Tryz.prog 110 (kp a b)).isSome)=true:=by kernel_rfl
theorem jl {a b:Nat} (A:a≤4) (hb:b≤4):domA (kp a b):=
 nP (b9.1 (b9.1 q0A a (aO.2 dT)) b (aO.2 dT))
theorem pW:((List.range 5).all fun a=>(keyOf Tryz.prog 3 (.int .i64 (a:Int))).isSome)=true:=by kernel_rfl
theorem l9 {a:Nat} (A:a≤4):domB (.int .i64 (a:Int)):=nP (b9.1 pW a (aO.2 dT))
/-- The steps, and the ends. -/
def stepL:List ((Nat×Nat)×Nat):=[((0,1),1),((0,2),2),((1,2),2),((2,2),2),((2,3),3),((3,2),4),((4,2),4)]
def jI (x:(Nat×Nat)×Nat):Value×Value:=(kp x.1.1 x.1.2,.int .i64 (x.2:Int))
def endV (n:Nat):Value×Value:=(.int .i64 (n:Int),.int .i64 1)
theorem jJ:∀ x∈stepL,x.1.1≤4∧x.1.2≤4:=by decide
theorem qH:∀ x∈stepL,∀ y∈stepL,x.1=y.1→x.2=y.2:=by decide
theorem qI:∀ s,s≤4→∀ c,c≤4→(∃ q,stp s c=some q∧((s,c),q)∈stepL)∨(stp s c=none∧∀ x∈stepL,x.1≠(s,c)):=by
 intro s B c A;have h1:s=0∨s=1∨s=2∨s=3∨s=4:=by omega
 have h2:c=0∨c=1∨c=2∨c=3∨c=4:=by omega
 rcases h1 with rfl|rfl|rfl|rfl|rfl<;>rcases h2 with rfl|rfl|rfl|rfl|rfl<;>first
  |exact Or.inl ⟨_,rfl,by decide⟩
  |exact Or.inr ⟨rfl,by decide⟩
theorem kL:Tryz.prog.underlying 111=some (.map 110 3):=by kernel_rfl
theorem kM:Tryz.prog.underlying 112=some (.map 3 3):=by kernel_rfl
theorem me (w:World):(zeroValue 3).run Tryz.prog w= .ok (.int .i64 0) w:=by kernel_rfl
theorem oQ {w:World} {b:Nat} (h:MapIs w b (stepL.map jI)) {s c:Nat} (K:s≤4) (I:c≤4):
  (Instr.lookup 111 (.map (some b)) (kp s c) true).run Tryz.prog w= .ok (.tuple #[.int .i64 ((stp s c).getD 0:Nat),.bool (stp s c).isSome]) w:=by
 have N:∀ x∈stepL.map jI,domA x.1:=by
  intro x C;obtain⟨y,D,rfl⟩:=b6.1 C;exact jl (jJ y D).1 (jJ y D).2
 rcases qI s K c I with ⟨q,e,J⟩|⟨e,J⟩
 ·rw[e];refine nF kl_a kL h N ?_ (jl K I) (b6.2 ⟨_,J,rfl⟩) true;intro x C y D B;obtain⟨x',A,rfl⟩:=b6.1 C;obtain⟨y',M,rfl⟩:=b6.1 D;obtain⟨E,F⟩:=my B;show Value.int .i64 (x'.2:Int)= .int .i64 (y'.2:Int);rw[qH x' A y' M (Prod.ext E F)]
 ·rw[e];refine lD kl_a kL (me w) h N (jl K I) ?_ true;intro x C B;obtain⟨x',A,rfl⟩:=b6.1 C;obtain⟨E,F⟩:=my B;exact J x' A (Prod.ext E F)
theorem pJ {w:World} {b:Nat} (h:MapIs w b ([2,4].map endV)) {s:Nat} (I:s≤4):
  (Instr.lookup 112 (.map (some b)) (.int .i64 (s:Int)) false).run Tryz.prog w= .ok (.int .i64 (if s=2∨s=4 then 1 else 0)) w:=by
 have F:∀ x∈[2,4].map endV,domB x.1:=by
  intro x A;obtain⟨y,E,rfl⟩:=b6.1 A;have:y=2∨y=4:=by simpa using E
  exact l9 dT
 by_cases B:s=2∨s=4
 ·rw[if_pos B];refine nF kl_b kM h F ?_ (l9 I) (b6.2 ⟨s,by simpa using B,rfl⟩) false;intro x A y E _;obtain⟨x',_,rfl⟩:=b6.1 A;obtain⟨y',_,rfl⟩:=b6.1 E;rfl
 ·rw[if_neg B];refine lD kl_b kM (me w) h F (l9 I) ?_ false;intro x A D;obtain⟨x',C,rfl⟩:=b6.1 A;have h1:x'=2∨x'=4:=by simpa using C
  have h2:(x':Int)=(s:Int):=by injection D
  omega
theorem q1o (c:UInt8):cls c≤4:=by
 unfold cls;split
 ·omega
 ·split
  ·omega
  ·split<;>omega
theorem q1S {s c q:Nat} (h:stp s c=some q):q≤4:=by
 unfold stp at h;split at h
 ·injection h;omega
 ·split at h
  ·split at h
   ·injection h;omega
   ·split at h
    ·injection h;omega
    ·cases h
  ·split at h
   ·injection h;omega
   ·cases h
theorem q1n {s:Nat} {c:UInt8} {r:List UInt8} (h:stp s (cls c)=none):aut s (c::r)=(0,false):=gh h
/-- What stands between the rounds. -/
def oZ (l:List UInt8) (AK:Nat) (AB:Bool) (w:World) (C B:Value) (wr:World):Prop:=
 ∃ (p r:List UInt8) (A:Nat),l=p++r∧A≤4∧C= .int .i64 (A:Int)∧B= .int .i64 (p.length:Nat)∧(AK,AB)=((aut A r).1+p.length,(aut A r).2)∧G w wr
set_option maxHeartbeats 2000000 in
set_option maxRecDepth 20000 in
theorem nT (w:World) (s:ByteArray) (l:List UInt8) (hs:Tx s l) (hn:s.size≤2000) (ba bb:Nat) (hA:MapIs w ba (stepL.map jI)) (hB:MapIs w bb ([2,4].map endV)):
  Calls Tryz.prog 93 #[.string s,.func (.func 92) #[] #[],.map (some ba),.map (some bb)] w fun e w'=>e= .returned (.tuple #[.int .i64 ((aut 0 l).1:Nat),.bool (aut 0 l).2])∧G w w':=by
 obtain⟨AK,AB,R⟩:∃ AK AB,(AK,AB)=aut 0 l:=⟨_,_,rfl⟩;rw[← R];have F:Hid (Tx s l):=hs;have al:=hs.size;have X:Hid (∀ D (C:Nat) c,G w D→C≤4→(Instr.lookup 111 (.map (some ba)) (.agg #[.int .i64 (C:Int),.int .i64 (cls c:Nat)]) true).run Tryz.prog D= .ok (.tuple #[.int .i64 ((stp C (cls c)).getD 0:Nat),.bool (stp C (cls c)).isSome]) D):=fun D C c g h=>oQ (hA.G g) h (q1o c);have S:Hid (∀ D (C:Nat),G w D→C≤4→(Instr.lookup 112 (.map (some bb)) (.int .i64 (C:Int)) false).run Tryz.prog D= .ok (.int .i64 (if C=2∨C=4 then 1 else 0)) D):=fun D C g h=>pJ (hB.G g) h;have d:Hid (oZ l AK AB w (.int .i64 0) (.int .i64 0) w):=⟨[],l,0,rfl,by omega,rfl,rfl,R,af _⟩;clear hs hA hB R;go_enter Tryz.func93,Tryz.ntmps93;go_wp2_with fail
 go_loopw [10,11] (fun vs vk wr=>oZ l AK AB w vs vk wr) (fun _ vk _=>s.size-(intOf vk).toNat)
 case atStart=>exact d.out
 case round=>
  clear d;obtain⟨p,r,C,I,E,rfl,rfl,A,M⟩:=hrel;have B:Hid ((AK,AB)=((aut C r).1+p.length,(aut C r).2)):=A;clear A;cases r with
  |nil=>
   rw[bZ] at I;subst I;have t0:decide (l.length<s.size)=false:=decide_eq_false dT;have A:=B.out;rw[show aut C []=(0,decide (C=2∨C=4)) from rfl,az] at A;have an:s.size=l.length:=al;by_cases U:C=2∨C=4
   case pos=>
    have Z:Hid (∀ D,G wr D→_):=fun D g=>by
     have h:=S.out D C (aa M g) E;rw[if_pos U] at h;exact h
    have Y:Hid (AK=l.length∧AB=true):=by
     rw[decide_eq_true U] at A;injection A with i j;exact⟨i,j⟩
    clear U A B S X F E;generalize am:l.length=n9 at *;go_wp2_with fail;refine ee dV dV ?_;intro W o;have K:=fun p=>Z.out (gw W p) (by rw[o];exact gw_G _ p);clear o Z
    repeat (go_big_quiet_step (fail))
    refine wpQuiet_nil ?_;intro W2 O;go_wp2_with fail;refine bodyPost_ret (v:= .tuple #[.int .i64 (n9:Int),.bool true]) (by simp [results,Tryz.results93,go_sem, *]) rfl ?_;exact⟨by rw[Y.out.1,Y.out.2],aa M O⟩
   case neg=>
    have Z:Hid (∀ D,G wr D→_):=fun D g=>by
     have h:=S.out D C (aa M g) E;rw[if_neg U] at h;exact h
    have Y:Hid (AK=l.length∧AB=false):=by
     rw[decide_eq_false U] at A;injection A with i j;exact⟨i,j⟩
    clear U A B S X F E;generalize am:l.length=n9 at *;go_wp2_with fail;refine ee dV dV ?_;intro W o;have K:=fun p=>Z.out (gw W p) (by rw[o];exact gw_G _ p);clear o Z
    repeat (go_big_quiet_step (fail))
    refine wpQuiet_nil ?_;intro W2 O;go_wp2_with fail;refine bodyPost_ret (v:= .tuple #[.int .i64 (n9:Int),.bool false]) (by simp [results,Tryz.results93,go_sem, *]) rfl ?_;exact⟨by rw[Y.out.1,Y.out.2],aa M O⟩
  |cons c r=>
   have N:l.length=p.length+(r.length+1):=by rw[I,ag,aK]
   rw[N] at al;have J:Hid (l=p++c::r):=I;have y:∀ hi:p.length<s.size,(s[p.length]'hi).toNat=c.toNat:=fun hi=>F.out.at (by rw[J.out,aZ dT,dJ];rfl) hi;generalize hk:p.length=k at *;generalize hm:r.length=m at *;clear I N;have HC:Hid (∀ D,_):=fun D=>q09 D c;go_wp2_with fail;refine Calls.mono (P:=Tryz.prog) (HC.out _) ?_;rintro e D ⟨rfl,g1⟩;have K:=X.out D C c (aa M g1) E;cases hq:stp C (cls c) with
   |none=>
    rw[hq] at K;have HR:Hid (AK=k∧AB=false):=by
     have h:=B.out;rw[q1n hq,az] at h;injection h with i j;exact⟨i,j⟩
    generalize cls c=cc at *;clear HC X S B F J y E hq hk hm;go_wp2_with fail;refine bodyPost_ret (v:= .tuple #[.int .i64 (k:Int),.bool false]) (by simp [results,Tryz.results93,go_sem, *]) rfl ?_;exact⟨by rw[HR.out.1,HR.out.2],aa M g1⟩
   |some q=>
    rw[hq] at K;have HR:Hid (oZ l AK AB w (.int .i64 (q:Int)) (.int .i64 ((k:Int)+1)) D):=⟨p++[c],r,q,by rw[J.out];simp,q1S hq,rfl,by rw[ag,hk];rfl,by
     have h:=B.out;rw[mf hq] at h;rw[h,ag,hk,cZ];show ((aut q r).1+1+k,_)=((aut q r).1+(k+1),_);rw[bR,bt 1 k],aa M g1⟩
    generalize cls c=cc at *;clear HC X S B F J y E hq hk hm g1 M;go_wp2_with fail
    go_round
    case rel=>exact HR.out
    case measure=>simp [intOf];omega
/-- Block b is a map of the entries of which S speaks. -/
def MapP (w:World) (b:Nat) (S:Value×Value→Prop):Prop:=∃ es A,w.heap[b]? =some (.map es A)∧(∀ e∈es.toList,S (e.key,e.val))∧∀ x,S x→∃ e∈es.toList,e.key=x.1∧e.val=x.2
theorem MapP.congr {w:World} {b:Nat} {S B:Value×Value→Prop} (h:MapP w b S) (e:∀ x,S x↔B x):MapP w b B:=by
 obtain⟨es,C,h1,h2,h3⟩:=h;exact⟨es,C,h1,fun x A=>(e _).1 (h2 x A),fun x A=>h3 x ((e x).2 A)⟩
theorem MapP.is {w:World} {b:Nat} {S:Value×Value→Prop} {A:List (Value×Value)} (h:MapP w b S) (e:∀ x,S x↔x∈A):MapIs w b A:=h.congr e
theorem MapP.heap {w w':World} {b:Nat} {S:Value×Value→Prop} (h:MapP w b S) (e:w'.heap[b]? =w.heap[b]?):MapP w' b S:=by
 obtain⟨es,A,h,h2⟩:=h;exact⟨es,A,by rw[e];exact h,h2⟩
theorem MapP.lt {w:World} {b:Nat} {S:Value×Value→Prop} (h:MapP w b S):b<w.heap.size:=by
 obtain⟨es,A,h,-⟩:=h;exact(aT.1 h).1
theorem MapP.new (w:World):MapP (w.alloc (.map #[] 0)) w.heap.size (fun _=>False):=
 ⟨#[],0,by simp only[World.alloc];exact cQ,(fun _ h=>by cases h),fun _ h=>h.elim⟩
/-- An entry more. -/
theorem putP {t k e:TypeId} {B:Value→Prop} (K:KL k B) (N:Tryz.prog.underlying t=some (.map k e)) {w:World} {b:Nat} {S:Value×Value→Prop} (h:MapP w b S) (J:∀ x,S x→B x.1)
  {key:Value} (F:B key) (A:∀ x,S x→x.1≠key) (v:Value):∃ o,(Instr.mapUpdate t (.map (some b)) key v).run Tryz.prog w= .ok () {w with heap:=w.heap.setIfInBounds b o}∧MapP {w with heap:=w.heap.setIfInBounds b o} b (fun x=>S x∨x=(key,v)):=by
 have D:=h.lt;obtain⟨es,C,hb,h1,h2⟩:=h;rcases K.find w F es.toList (fun e M=>J _ (h1 e M)) with ⟨f1,f2⟩|⟨j,I,f1,f2,f3⟩
 ·refine⟨.map (es.push {key,val:=v,born:=C}) (C+1),?_,es.push {key,val:=v,born:=C},C+1,?_,?_,?_⟩
  ·simp [Instr.mapUpdate,run_underlying N,MapKept.run_getObj_map hb,K.check w _ F,f1,Result.andThen,MapKept.run_setObj_map _ hb]
  ·simp [D]
  ·intro x A;rw[Array.toList_push,cL] at A;rcases A with A|A
   ·exact Or.inl (h1 x A)
   ·rw[cF] at A;subst A;exact Or.inr rfl
  ·intro x A;rcases A with A|A
   ·obtain⟨e0,E,h3⟩:=h2 x A;exact⟨e0,by rw[Array.toList_push,cL];exact Or.inl E,h3⟩
   ·subst A;exact⟨_,by rw[Array.toList_push,cL];exact Or.inr (cF.2 rfl),rfl,rfl⟩
 ·exact absurd f3 (A _ (h1 I (bH f2)))
theorem q1f {w0 w:World} {b:Nat} (o:Obj) (g:G w0 w) (hb:w0.heap.size≤b):G w0 {w with heap:=w.heap.setIfInBounds b o}:=by
 obtain⟨g1,g2,g3,g4,g5⟩:=g;refine⟨g1,g2,g3,by simpa using g4,fun k A=> ?_⟩;rw[← g5 k A];simp only[dH];rw[if_neg dT]
theorem kf {w:World} {b c:Nat} (o:Obj) (h:b≠c):({w with heap:=w.heap.setIfInBounds b o}:World).heap[c]? =w.heap[c]? :=by
 simp only[dH];rw[if_neg h]
/-- What is known of one map: operation m makes it, those of ins put entries in, mv hands it on. -/
structure OM (wE:World) (m mv:Nat) (ins:List (Nat×(Value×Value))) (L:Nat→Bool) (f:Nat→Value) (w:World):Prop where
 blk:L m=true→∃ b,f m= .map (some b)∧wE.heap.size≤b∧MapP w b (fun x=>∃ y∈ins,L y.1=true∧y.2=x)
 moved:L mv=true→f mv=f m∧L m=true∧∀ y∈ins,L y.1=true
 wait:∀ y∈ins,L y.1=true→L m=true
section
variable {wE w w':World} {m mv:Nat} {ins:List (Nat×(Value×Value))} {L:Nat→Bool} {f:Nat→Value}
theorem OM.keep (h:OM wE m mv ins L f w) (i:Nat) (v:Value) (h1:i≠m) (h2:i≠mv) (h3:∀ y∈ins,y.1≠i) (E:L m=true→∀ b,f m= .map (some b)→b<w.heap.size→w'.heap[b]? =w.heap[b]?):OM wE m mv ins (upd L i true) (upd f i v) w' where
 blk:=fun B=>by
  rw[upd_ne _ _ (bk h1)] at B ⊢;obtain⟨b,e,hb,D⟩:=h.blk B;refine⟨b,e,hb,(D.heap (E B b e D.lt)).congr fun x=> ?_⟩;constructor
  ·rintro⟨y,A,C,e⟩;exact⟨y,A,by rw[upd_ne _ _ (h3 y A)];exact C,e⟩
  ·rintro⟨y,A,C,e⟩;exact⟨y,A,by rw[upd_ne _ _ (h3 y A)] at C;exact C,e⟩
 moved:=fun B=>by
  rw[upd_ne _ _ (bk h2)] at B ⊢;rw[upd_ne _ _ (bk h1),upd_ne _ _ (bk h1)];obtain⟨F,I,J⟩:=h.moved B;exact⟨F,I,fun y A=>by rw[upd_ne _ _ (h3 y A)];exact J y A⟩
 wait:=fun y A B=>by
  rw[upd_ne _ _ (h3 y A)] at B;rw[upd_ne _ _ (bk h1)];exact h.wait y A B
theorem OM.make (h:OM wE m mv ins L f w) (g:G wE w) (A:L m=false) (h2:mv≠m) (h3:∀ y∈ins,y.1≠m):OM wE m mv ins (upd L m true) (upd f m (.map (some w.heap.size))) (w.alloc (.map #[] 0)) where
 blk:=fun _=>by
  rw[upd_same];refine⟨_,rfl,g.size,(MapP.new w).congr fun x=> ?_⟩;constructor
  ·exact fun h=>h.elim
  ·rintro⟨y,C,D,-⟩;rw[upd_ne _ _ (h3 y C)] at D;have:=h.wait y C D;rw[A] at this;cases this
 moved:=fun B=>by
  rw[upd_ne _ _ h2] at B;obtain⟨-,k,-⟩:=h.moved B;rw[A] at k;cases k
 wait:=fun _ _ _=>upd_same ..
theorem OM.put (h:OM wE m mv ins L f w) {b i:Nat} {o:Obj} {x:Value×Value} (v:Value) (hi:(i,x)∈ins) (hu:∀ y∈ins,y.1=i→y.2=x) (h1:i≠m) (h2:i≠mv) (F:L i=false) (D:L m=true) (e:f m= .map (some b)) (hb:wE.heap.size≤b)
  (I:MapP {w with heap:=w.heap.setIfInBounds b o} b (fun z=>(∃ y∈ins,L y.1=true∧y.2=z)∨z=x)):OM wE m mv ins (upd L i true) (upd f i v) {w with heap:=w.heap.setIfInBounds b o} where
 blk:=fun _=>by
  rw[upd_ne _ _ (bk h1)];refine⟨b,e,hb,I.congr fun z=> ?_⟩;constructor
  ·rintro(⟨y,B,C,e⟩|rfl)
   ·refine⟨y,B,?_,e⟩;by_cases A:y.1=i
    ·rw[A,upd_same]
    ·rw[upd_ne _ _ A];exact C
   ·exact⟨(i,z),hi,upd_same ..,rfl⟩
  ·rintro⟨y,B,C,e⟩;by_cases A:y.1=i
   ·right;rw[← e];exact hu y B A
   ·rw[upd_ne _ _ A] at C;exact Or.inl ⟨y,B,C,e⟩
 moved:=fun E=>by
  rw[upd_ne _ _ (bk h2)] at E;obtain⟨-,-,k⟩:=h.moved E;have:=k _ hi;rw[F] at this;cases this
 wait:=fun _ _ _=>by rw[upd_ne _ _ (bk h1)];exact D
theorem OM.move (h:OM wE m mv ins L f w) (h2:mv≠m) (h3:∀ y∈ins,y.1≠mv) (B:L m=true) (C:∀ y∈ins,L y.1=true):OM wE m mv ins (upd L mv true) (upd f mv (f m)) w where
 blk:=fun F=>by
  rw[upd_ne _ _ (bk h2)];obtain⟨b,e,hb,E⟩:=h.blk B;refine⟨b,e,hb,E.congr fun x=> ?_⟩;constructor
  ·rintro⟨y,A,D,e⟩;exact⟨y,A,by rw[upd_ne _ _ (h3 y A)];exact D,e⟩
  ·rintro⟨y,A,D,e⟩;exact⟨y,A,by rw[upd_ne _ _ (h3 y A)] at D;exact D,e⟩
 moved:=fun _=>by
  rw[upd_same,upd_ne _ _ (bk h2),upd_ne _ _ (bk h2)];exact⟨rfl,B,fun y A=>by rw[upd_ne _ _ (h3 y A)];exact C y A⟩
 wait:=fun _ _ _=>by rw[upd_ne _ _ (bk h2)];exact B
end
end Go.Proofs.YtfnkkkcojnffdaaGreatDoor.EN
namespace Go.Proofs.YtfnkkkcojnffdaaGreatDoor.EN
open Go.ChangeShapes Go.WideShapes Go.ChangeAt Go.RowKit
/-- Which operation puts which entry in. -/
def insN:List (Nat×(Nat×Nat)×Nat):=[(4,(0,1),1),(6,(0,2),2),(8,(1,2),2),(10,(2,2),2),(12,(2,3),3),(14,(3,2),4),(16,(4,2),4)]
def insA:List (Nat×(Value×Value)):=insN.map fun y=>(y.1,(kp y.2.1.1 y.2.1.2,.int .i64 (y.2.2:Int)))
def insM:List (Nat×Nat):=[(19,2),(20,4)]
def insB:List (Nat×(Value×Value)):=insM.map fun y=>(y.1,(.int .i64 (y.2:Int),.int .i64 1))
theorem q0v:insA.map (·.2)=stepL.map jI:=rfl
theorem q0w:insB.map (·.2)=[2,4].map endV:=rfl
/-- What is known of the values. -/
def MV (s:ByteArray) (AK:Nat) (AB:Bool):Nat→Value→Prop
 |0,v=>v= .string s|1,v=>v= .func (.func 92) #[] #[]
 |3,v=>v=kp 0 1|5,v=>v=kp 0 2|7,v=>v=kp 1 2|9,v=>v=kp 2 2|11,v=>v=kp 2 3|13,v=>v=kp 3 2|15,v=>v=kp 4 2
 |22,v=>v= .tuple #[.int .i64 (AK:Int),.bool AB]|23,v=>v= .tuple #[.int .i64 (AK:Int),.bool AB]|24,v=>v= .int .i64 (AK:Int)|25,v=>v= .bool AB|26,v=>v= .int .i64 (AK:Int)|27,v=>v= .bool AB
 |_,_=>True
structure MI (s:ByteArray) (AK:Nat) (AB:Bool) (wE:World) (L:Nat→Bool) (f:Nat→Value) (w:World):Prop where
 g:G wE w
 held:∀ j,L j=true→MV s AK AB j (f j)
 a:OM wE 2 17 insA L f w
 b:OM wE 18 21 insB L f w
 ne:L 2=true→L 18=true→f 2≠f 18
def iy:List Nat:=[2,17,18,21,4,6,8,10,12,14,16,19,20]
theorem fI:∀ y∈insA,y.1∈[4,6,8,10,12,14,16]:=by
 intro y A;obtain⟨z,B,rfl⟩:=b6.1 A;exact(by decide:∀ z∈insN,z.1∈[4,6,8,10,12,14,16]) z B
theorem fJ:∀ y∈insB,y.1∈[19,20]:=by
 intro y A;obtain⟨z,B,rfl⟩:=b6.1 A;exact(by decide:∀ z∈insM,z.1∈[19,20]) z B
section
variable {s:ByteArray} {AK:Nat} {AB:Bool} {wE w w':World} {L:Nat→Bool} {f:Nat→Value}
theorem gT {i:Nat} {v:Value} (A:∀ j,L j=true→MV s AK AB j (f j)) (hv:MV s AK AB i v):∀ j,upd L i true j=true→MV s AK AB j (upd f i v j):=by
 intro j B;by_cases h:j=i
 ·subst h;rw[upd_same];exact hv
 ·rw[upd_ne _ _ h] at B ⊢;exact A j B
theorem notA {i:Nat} (hi:i∉iy):∀ y∈insA,y.1≠i:=fun y A e=>hi (by
 have h:=fI y A;rw[e] at h;revert h;simp [iy];omega)
theorem notB {i:Nat} (hi:i∉iy):∀ y∈insB,y.1≠i:=fun y A e=>hi (by
 have h:=fJ y A;rw[e] at h;revert h;simp [iy];omega)
theorem MI.step (h:MI s AK AB wE L f w) (i:Nat) (v:Value) (hi:i∉iy) (g:G w w') (hv:MV s AK AB i v):MI s AK AB wE (upd L i true) (upd f i v) w' where
 g:=aa h.g g
 held:=gT h.held hv
 a:=h.a.keep i v (fun e=>hi (by rw[e];decide)) (fun e=>hi (by rw[e];decide)) (notA hi) (fun _ b _ hb=>by obtain⟨-,-,-,-,g5⟩:=g;exact g5 b hb)
 b:=h.b.keep i v (fun e=>hi (by rw[e];decide)) (fun e=>hi (by rw[e];decide)) (notB hi) (fun _ b _ hb=>by obtain⟨-,-,-,-,g5⟩:=g;exact g5 b hb)
 ne:=by
  rw[upd_ne _ _ (fun e=>hi (by rw[← e];decide)),upd_ne _ _ (fun e=>hi (by rw[← e];decide)),upd_ne _ _ (fun e=>hi (by rw[← e];decide)),upd_ne _ _ (fun e=>hi (by rw[← e];decide))];exact h.ne
theorem MI.mkA (h:MI s AK AB wE L f w) (D:L 2=false):MI s AK AB wE (upd L 2 true) (upd f 2 (.map (some w.heap.size))) (w.alloc (.map #[] 0)) where
 g:=h.g.alloc _
 held:=gT h.held trivial
 a:=h.a.make h.g D ey (fun y B e=>by have:=fI y B;rw[e] at this;revert this;decide)
 b:=h.b.keep 2 _ ey ey (fun y B e=>by have:=fJ y B;rw[e] at this;revert this;decide) (fun _ b _ hb=>by obtain⟨-,-,-,-,g5⟩:=(af w).alloc (.map #[] 0);exact g5 b hb)
 ne:=fun _ C=>by
  rw[upd_ne _ _ ey] at C;rw[upd_same,upd_ne _ _ ey];obtain⟨b,e,-,E⟩:=h.b.blk C;rw[e];intro A;injection A with A;injection A with A;exact absurd E.lt dT
theorem MI.mkB (h:MI s AK AB wE L f w) (D:L 18=false):MI s AK AB wE (upd L 18 true) (upd f 18 (.map (some w.heap.size))) (w.alloc (.map #[] 0)) where
 g:=h.g.alloc _
 held:=gT h.held trivial
 b:=h.b.make h.g D ey (fun y B e=>by have:=fJ y B;rw[e] at this;revert this;decide)
 a:=h.a.keep 18 _ ey ey (fun y B e=>by have:=fI y B;rw[e] at this;revert this;decide) (fun _ b _ hb=>by obtain⟨-,-,-,-,g5⟩:=(af w).alloc (.map #[] 0);exact g5 b hb)
 ne:=fun C _=>by
  rw[upd_ne _ _ ey] at C;rw[upd_same,upd_ne _ _ ey];obtain⟨b,e,-,E⟩:=h.a.blk C;rw[e];intro A;injection A with A;injection A with A;exact absurd E.lt dT
theorem MI.mvA (h:MI s AK AB wE L f w) (C:L 2=true) (A:∀ y∈insA,L y.1=true):MI s AK AB wE (upd L 17 true) (upd f 17 (f 2)) w where
 g:=h.g
 held:=gT h.held trivial
 a:=h.a.move ey (fun y B e=>by have:=fI y B;rw[e] at this;revert this;decide) C A
 b:=h.b.keep 17 _ ey ey (fun y B e=>by have:=fJ y B;rw[e] at this;revert this;decide) (fun _ _ _ _=>rfl)
 ne:=h.ne
theorem MI.mvB (h:MI s AK AB wE L f w) (C:L 18=true) (A:∀ y∈insB,L y.1=true):MI s AK AB wE (upd L 21 true) (upd f 21 (f 18)) w where
 g:=h.g
 held:=gT h.held trivial
 b:=h.b.move ey (fun y B e=>by have:=fJ y B;rw[e] at this;revert this;decide) C A
 a:=h.a.keep 21 _ ey ey (fun y B e=>by have:=fI y B;rw[e] at this;revert this;decide) (fun _ _ _ _=>rfl)
 ne:=h.ne
theorem MI.putA (h:MI s AK AB wE L f w) {i a b q:Nat} (K:(i,(a,b),q)∈insN) (O:L i=false) (R:L 2=true) (v:Value) (hv:MV s AK AB i v):
  ∃ p o,f 2= .map (some p)∧(Instr.mapUpdate 111 (.map (some p)) (kp a b) (.int .i64 (q:Int))).run Tryz.prog w= .ok () {w with heap:=w.heap.setIfInBounds p o}∧MI s AK AB wE (upd L i true) (upd f i v) {w with heap:=w.heap.setIfInBounds p o}:=by
 obtain⟨p,e,X,j⟩:=h.a.blk R;have M:=(by decide:∀ z∈insN,z.2.1.1≤4∧z.2.1.2≤4) _ K;have A:i∈[4,6,8,10,12,14,16]:=(by decide:∀ z∈insN,z.1∈[4,6,8,10,12,14,16]) _ K;have U:=(by decide:∀ z∈insN,∀ y∈insN,z.2.1=y.2.1→z.1=y.1) _ K;have C:i≠2:=by intro e;rw[e] at A;revert A;decide
 have F:i≠17:=by intro e;rw[e] at A;revert A;decide
 have B:i≠18:=by intro e;rw[e] at A;revert A;decide
 have I:i≠21:=by intro e;rw[e] at A;revert A;decide
 obtain⟨o,h1,h2⟩:=putP kl_a kL j (fun x ⟨y,D,_,E⟩=>by
  obtain⟨z,N,rfl⟩:=b6.1 D;subst E;have:=(by decide:∀ z∈insN,z.2.1.1≤4∧z.2.1.2≤4) z N;exact jl this.1 this.2) (jl M.1 M.2) (fun x ⟨y,D,Y,E⟩ k=>by
  obtain⟨z,N,rfl⟩:=b6.1 D;subst E;obtain⟨Z,c⟩:=my k;have h3:i=z.1:=U z N (Prod.ext Z.symm c.symm);rw[h3] at O;rw[O] at Y;cases Y) (.int .i64 (q:Int))
 refine⟨p,o,e,h1,?_⟩;refine⟨q1f o h.g X,gT h.held hv,h.a.put v (b6.2 ⟨_,K,rfl⟩) (fun y D W=> ?_) C F O R e X h2,h.b.keep i v B I (fun y D e=>by have:=fJ y D;rw[e] at this;revert this A;simp;omega) (fun J b d _=>kf o (fun S=>h.ne R J (by rw[e,d,S]))),?_⟩
 ·obtain⟨z,N,rfl⟩:=b6.1 D;have h3:=(by decide:∀ z∈insN,∀ y∈insN,z.1=y.1→z=y) z N _ K W;rw[h3]
 ·rw[upd_ne _ _ (bk C),upd_ne _ _ (bk C),upd_ne _ _ (bk B),upd_ne _ _ (bk B)];exact h.ne
theorem MI.putB (h:MI s AK AB wE L f w) {i a:Nat} (J:(i,a)∈insM) (M:L i=false) (N:L 18=true) (v:Value) (hv:MV s AK AB i v):
  ∃ p o,f 18= .map (some p)∧(Instr.mapUpdate 112 (.map (some p)) (.int .i64 (a:Int)) (.int .i64 1)).run Tryz.prog w= .ok () {w with heap:=w.heap.setIfInBounds p o}∧MI s AK AB wE (upd L i true) (upd f i v) {w with heap:=w.heap.setIfInBounds p o}:=by
 obtain⟨p,e,X,c⟩:=h.b.blk N;have S:=(by decide:∀ z∈insM,z.2≤4) _ J;have A:i∈[19,20]:=(by decide:∀ z∈insM,z.1∈[19,20]) _ J;have U:=(by decide:∀ z∈insM,∀ y∈insM,z.2=y.2→z.1=y.1) _ J;have C:i≠2:=by intro e;rw[e] at A;revert A;decide
 have F:i≠17:=by intro e;rw[e] at A;revert A;decide
 have B:i≠18:=by intro e;rw[e] at A;revert A;decide
 have I:i≠21:=by intro e;rw[e] at A;revert A;decide
 obtain⟨o,h1,h2⟩:=putP kl_b kM c (fun x ⟨y,D,_,E⟩=>by
  obtain⟨z,K,rfl⟩:=b6.1 D;subst E;exact l9 ((by decide:∀ z∈insM,z.2≤4) z K)) (l9 S) (fun x ⟨y,D,Y,E⟩ d=>by
  obtain⟨z,K,rfl⟩:=b6.1 D;subst E;have j:(z.2:Int)=(a:Int):=by injection d
  have h3:i=z.1:=U z K (by show a=z.2;omega);rw[h3] at M;rw[M] at Y;cases Y) (.int .i64 1)
 refine⟨p,o,e,h1,?_⟩;refine⟨q1f o h.g X,gT h.held hv,h.a.keep i v C F (fun y D e=>by have:=fI y D;rw[e] at this;revert this A;simp;omega) (fun O b Z _=>kf o (fun R=>h.ne O N (by rw[e,Z,R]))),h.b.put v (b6.2 ⟨_,J,rfl⟩) (fun y D W=> ?_) B I M N e X h2,?_⟩
 ·obtain⟨z,K,rfl⟩:=b6.1 D;have h3:=(by decide:∀ z∈insM,∀ y∈insM,z.1=y.1→z=y) z K _ J W;rw[h3]
 ·rw[upd_ne _ _ (bk C),upd_ne _ _ (bk C),upd_ne _ _ (bk B),upd_ne _ _ (bk B)];exact h.ne
/-- Behind all of them, the two maps are what the reader walks by. -/
theorem MI.maps (h:MI s AK AB wE L f w) (B:L 17=true) (C:L 21=true):∃ ba bb,f 17= .map (some ba)∧f 21= .map (some bb)∧MapIs w ba (stepL.map jI)∧MapIs w bb ([2,4].map endV):=by
 obtain⟨F,N,E⟩:=h.a.moved B;obtain⟨I,O,a2⟩:=h.b.moved C;obtain⟨ba,J,-,M⟩:=h.a.blk N;obtain⟨bb,K,-,hb⟩:=h.b.blk O;refine⟨ba,bb,by rw[F,J],by rw[I,K],M.is fun x=> ?_,hb.is fun x=> ?_⟩
 ·rw[← q0v];constructor
  ·rintro⟨y,A,-,rfl⟩;exact b6.2 ⟨y,A,rfl⟩
  ·intro D;obtain⟨y,A,rfl⟩:=b6.1 D;exact⟨y,A,E y A,rfl⟩
 ·rw[← q0w];constructor
  ·rintro⟨y,A,-,rfl⟩;exact b6.2 ⟨y,A,rfl⟩
  ·intro D;obtain⟨y,A,rfl⟩:=b6.1 D;exact⟨y,A,a2 y A,rfl⟩
end
end Go.Proofs.YtfnkkkcojnffdaaGreatDoor.EN
namespace Go.Proofs.YtfnkkkcojnffdaaGreatDoor.EN
open Go.ChangeShapes Go.WideShapes Go.ChangeAt Go.RowKit
/-- A call hands back a ratio, and no fault; or none, and a fault. -/
def kR (w:World) (q:Rat) (c a:Int) (e:Ending) (w':World):Prop:=
 (c≠0∧e= .returned (.tuple #[.pointer none,.agg #[.int .i64 c,.int .i64 a]])∧G w w')∨
 (c=0∧∃ p,e= .returned (.tuple #[.pointer (some ⟨p,0,none⟩),.agg #[.int .i64 c,.int .i64 a]])∧G w w'∧p<w'.heap.size∧RIs w' p q)
set_option maxHeartbeats 2000000 in
set_option maxRecDepth 20000 in
theorem qy (w:World) (s:ByteArray) (S:2000<s.size):Calls Tryz.prog 40 #[.string s] w (kR w 0 2 0):=by
 have t0:decide ((2000:Int)<(s.size:Int))=true:=decide_eq_true dT;have R:Hid (∀ F,_):=fun F=>kD F 2 0;clear S;go_enter Tryz.func40,Tryz.ntmps40;go_wp2_with fail;obtain⟨w0,A,g0,U,I⟩:=eD w [.int .i64 0,.int .i64 0] 65;rw[A];clear A;refine Calls.mono (P:=Tryz.prog) (R.out _) ?_;rintro e F ⟨rfl,g1⟩;obtain⟨B,C,D,E⟩:=eU I (g1);go_wp2_with fail;go_wp2_with fail;have O:Hid (Rec _ (w.heap.size) [.int .i64 2,.int .i64 0]):=Rec.set2 (bs I.out (g1));have g9:=Rec.h2 O.out (aa g0 g1) dT;generalize (World.setCell (World.setCell F ⟨w.heap.size,0,none⟩ (.int .i64 2)) ⟨w.heap.size,1,none⟩ (.int .i64 0))=W at *;obtain⟨J,K,M,N⟩:=eU O (((af _)));refine bodyPost_ret (v:= .tuple #[.pointer none,.agg #[.int .i64 2,.int .i64 0]]) (by simp [results,Tryz.results40,go_sem, *]) rfl ?_;exact Or.inl ⟨by omega,rfl,g9⟩
set_option maxHeartbeats 8000000 in
set_option maxRecDepth 20000 in
theorem kE (w:World) (s:ByteArray) (l:List UInt8) (AK:Nat) (hs:Tx s l) (hn:s.size≤2000) (al:aut 0 l=(AK,false)):Calls Tryz.prog 40 #[.string s] w (kR w 0 1 (AK:Int)):=by
 obtain⟨AB,Z⟩:∃ AB,AB=false:=⟨_,rfl⟩;have t0:decide ((2000:Int)<(s.size:Int))=false:=decide_eq_false dT;have HF:Hid (∀ S,_):=fun S=>kD S 1 (AK:Int);have HU:Hid (∀ S ba bb,MapIs S ba (stepL.map jI)→MapIs S bb ([2,4].map endV)→Calls Tryz.prog 93 #[.string s,.func (.func 92) #[] #[],.map (some ba),.map (some bb)] S fun e w'=>e= .returned (.tuple #[.int .i64 (AK:Int),.bool AB])∧G S w'):=fun S ba bb h1 h2=>by
  have h:=nT S s l hs hn ba bb h1 h2;rw[al] at h;rw[Z];exact h
 have c:Hid (AB=false):=Z;clear hs al Z;go_enter Tryz.func40,Tryz.ntmps40;go_wp2_with fail;obtain⟨w0,am,g0,ec,R0⟩:=eD w [.int .i64 0,.int .i64 0] 65;rw[am];clear am;refine RV.region_inv 28 0 #[true,true,true,true,true,true,true,true,true,true,true,true,true,true,true,true,true,true,true,true,true,true,true,true,true,true,true,true] [some 19,some 20,some 21,some 22,none,some 23,none,some 24,none,some 25,none,some 26,none,some 27,none,some 28,none,some 29,some 30,none,none,some 31,some 32,some 18,some 33,some 34,some 5,some 6] (MI s AK AB w0) dV dV rfl dV dV ?_ ?_
 ·intro f;exact⟨(af _).drew,(fun j h=>(by cases h)),⟨(fun h=>by cases h),(fun h=>by cases h),(fun _ _ h=>by cases h)⟩,⟨(fun h=>by cases h),(fun h=>by cases h),(fun _ _ h=>by cases h)⟩,(fun h=>by cases h)⟩
 ·intro A M;simp only[List.range,List.range.loop,dB,List.map_nil,eY,Act.put,aA,aI,aJ] at M;refine⟨?_,?_⟩
  ·skip
   refine ar rfl ?_ ?_
   ·intro L f W C J E K B;rw[M f] at B ⊢;go_simp;exact B.out _ _ ⟨_,rfl,C.step 0 _ ey (af _) rfl⟩
   refine ar rfl ?_ ?_
   ·intro L f W C J E K B;rw[M f] at B ⊢;go_simp;exact B.out _ _ ⟨_,rfl,C.step 1 _ ey (af _) rfl⟩
   refine ar rfl ?_ ?_
   ·intro L f W C J E K B;rw[M f] at B ⊢;go_simp;exact B.out _ _ ⟨_,rfl,C.mkA J⟩
   refine ar rfl ?_ ?_
   ·intro L f W C J E K B;rw[M f] at B ⊢;go_simp;exact B.out _ _ ⟨_,rfl,C.step 3 _ ey (af _) rfl⟩
   refine ar rfl ?_ ?_
   ·intro L f W C J E K B;rw[M f] at B ⊢;obtain⟨p,o,N,D,F⟩:=C.putA (i:=4) (a:=0) (b:=1) (q:=1) ey J (E 2 dV) undef trivial;have O:f 3=kp 0 1:=C.held 3 (E 3 dV);have U:(Instr.mapUpdate 111 (.map (some p)) (kp 0 1) (.int .i64 1)).run Tryz.prog W=_:=D;have I:=hi9 F;rw[N,O] at B ⊢;clear F C E N O D;go_simp;exact B.out _ _ ⟨_,rfl,I.out⟩
   refine ar rfl ?_ ?_
   ·intro L f W C J E K B;rw[M f] at B ⊢;go_simp;exact B.out _ _ ⟨_,rfl,C.step 5 _ ey (af _) rfl⟩
   refine ar rfl ?_ ?_
   ·intro L f W C J E K B;rw[M f] at B ⊢;obtain⟨p,o,N,D,F⟩:=C.putA (i:=6) (a:=0) (b:=2) (q:=2) ey J (E 2 dV) undef trivial;have O:f 5=kp 0 2:=C.held 5 (E 5 dV);have U:(Instr.mapUpdate 111 (.map (some p)) (kp 0 2) (.int .i64 2)).run Tryz.prog W=_:=D;have I:=hi9 F;rw[N,O] at B ⊢;clear F C E N O D;go_simp;exact B.out _ _ ⟨_,rfl,I.out⟩
   refine ar rfl ?_ ?_
   ·intro L f W C J E K B;rw[M f] at B ⊢;go_simp;exact B.out _ _ ⟨_,rfl,C.step 7 _ ey (af _) rfl⟩
   refine ar rfl ?_ ?_
   ·intro L f W C J E K B;rw[M f] at B ⊢;obtain⟨p,o,N,D,F⟩:=C.putA (i:=8) (a:=1) (b:=2) (q:=2) ey J (E 2 dV) undef trivial;have O:f 7=kp 1 2:=C.held 7 (E 7 dV);have U:(Instr.mapUpdate 111 (.map (some p)) (kp 1 2) (.int .i64 2)).run Tryz.prog W=_:=D;have I:=hi9 F;rw[N,O] at B ⊢;clear F C E N O D;go_simp;exact B.out _ _ ⟨_,rfl,I.out⟩
   refine ar rfl ?_ ?_
   ·intro L f W C J E K B;rw[M f] at B ⊢;go_simp;exact B.out _ _ ⟨_,rfl,C.step 9 _ ey (af _) rfl⟩
   refine ar rfl ?_ ?_
   ·intro L f W C J E K B;rw[M f] at B ⊢;obtain⟨p,o,N,D,F⟩:=C.putA (i:=10) (a:=2) (b:=2) (q:=2) ey J (E 2 dV) undef trivial;have O:f 9=kp 2 2:=C.held 9 (E 9 dV);have U:(Instr.mapUpdate 111 (.map (some p)) (kp 2 2) (.int .i64 2)).run Tryz.prog W=_:=D;have I:=hi9 F;rw[N,O] at B ⊢;clear F C E N O D;go_simp;exact B.out _ _ ⟨_,rfl,I.out⟩
   refine ar rfl ?_ ?_
   ·intro L f W C J E K B;rw[M f] at B ⊢;go_simp;exact B.out _ _ ⟨_,rfl,C.step 11 _ ey (af _) rfl⟩
   refine ar rfl ?_ ?_
   ·intro L f W C J E K B;rw[M f] at B ⊢;obtain⟨p,o,N,D,F⟩:=C.putA (i:=12) (a:=2) (b:=3) (q:=3) ey J (E 2 dV) undef trivial;have O:f 11=kp 2 3:=C.held 11 (E 11 dV);have U:(Instr.mapUpdate 111 (.map (some p)) (kp 2 3) (.int .i64 3)).run Tryz.prog W=_:=D;have I:=hi9 F;rw[N,O] at B ⊢;clear F C E N O D;go_simp;exact B.out _ _ ⟨_,rfl,I.out⟩
   refine ar rfl ?_ ?_
   ·intro L f W C J E K B;rw[M f] at B ⊢;go_simp;exact B.out _ _ ⟨_,rfl,C.step 13 _ ey (af _) rfl⟩
   refine ar rfl ?_ ?_
   ·intro L f W C J E K B;rw[M f] at B ⊢;obtain⟨p,o,N,D,F⟩:=C.putA (i:=14) (a:=3) (b:=2) (q:=4) ey J (E 2 dV) undef trivial;have O:f 13=kp 3 2:=C.held 13 (E 13 dV);have U:(Instr.mapUpdate 111 (.map (some p)) (kp 3 2) (.int .i64 4)).run Tryz.prog W=_:=D;have I:=hi9 F;rw[N,O] at B ⊢;clear F C E N O D;go_simp;exact B.out _ _ ⟨_,rfl,I.out⟩
   refine ar rfl ?_ ?_
   ·intro L f W C J E K B;rw[M f] at B ⊢;go_simp;exact B.out _ _ ⟨_,rfl,C.step 15 _ ey (af _) rfl⟩
   refine ar rfl ?_ ?_
   ·intro L f W C J E K B;rw[M f] at B ⊢;obtain⟨p,o,N,D,F⟩:=C.putA (i:=16) (a:=4) (b:=2) (q:=4) ey J (E 2 dV) undef trivial;have O:f 15=kp 4 2:=C.held 15 (E 15 dV);have U:(Instr.mapUpdate 111 (.map (some p)) (kp 4 2) (.int .i64 4)).run Tryz.prog W=_:=D;have I:=hi9 F;rw[N,O] at B ⊢;clear F C E N O D;go_simp;exact B.out _ _ ⟨_,rfl,I.out⟩
   refine ar rfl ?_ ?_
   ·intro L f W C J E K B;rw[M f] at B ⊢;have R:∀ y∈insA,L y.1=true:=by
     intro y hy;have h:=fI y hy;simp only[bC,cS,or_false] at h;rcases h with h|h|h|h|h|h|h<;>rw[h]<;>exact E _ dV
    have I:=hi9 (C.mvA (E 2 dV) R);clear R C E;go_simp;exact B.out _ _ ⟨_,rfl,I.out⟩
   refine ar rfl ?_ ?_
   ·intro L f W C J E K B;rw[M f] at B ⊢;go_simp;exact B.out _ _ ⟨_,rfl,C.mkB J⟩
   refine ar rfl ?_ ?_
   ·intro L f W C J E K B;rw[M f] at B ⊢;obtain⟨p,o,N,D,F⟩:=C.putB (i:=19) (a:=2) ey J (E 18 dV) undef trivial;have U:(Instr.mapUpdate 112 (.map (some p)) (.int .i64 2) (.int .i64 1)).run Tryz.prog W=_:=D;have I:=hi9 F;rw[N] at B ⊢;clear F C E N D;go_simp;exact B.out _ _ ⟨_,rfl,I.out⟩
   refine ar rfl ?_ ?_
   ·intro L f W C J E K B;rw[M f] at B ⊢;obtain⟨p,o,N,D,F⟩:=C.putB (i:=20) (a:=4) ey J (E 18 dV) undef trivial;have U:(Instr.mapUpdate 112 (.map (some p)) (.int .i64 4) (.int .i64 1)).run Tryz.prog W=_:=D;have I:=hi9 F;rw[N] at B ⊢;clear F C E N D;go_simp;exact B.out _ _ ⟨_,rfl,I.out⟩
   refine ar rfl ?_ ?_
   ·intro L f W C J E K B;rw[M f] at B ⊢;have R:∀ y∈insB,L y.1=true:=by
     intro y hy;have h:=fJ y hy;simp only[bC,cS,or_false] at h;rcases h with h|h<;>rw[h]<;>exact E _ dV
    have I:=hi9 (C.mvB (E 18 dV) R);clear R C E;go_simp;exact B.out _ _ ⟨_,rfl,I.out⟩
   refine ar rfl ?_ ?_
   ·intro L f W C J E K B;rw[M f] at B ⊢;have e0:f 0= .string s:=C.held 0 (E 0 dV);have e1:f 1= .func (.func 92) #[] #[]:=C.held 1 (E 1 dV);obtain⟨ba,bb,ea,eb,ha,hb⟩:=C.maps (E 17 dV) (E 21 dV);have HC:=hi9 (HU.out W ba bb ha hb);have I:Hid (MI s AK AB w0 L f W):=C;rw[e0,e1,ea,eb] at B ⊢;clear e0 e1 ea eb ha hb C E;go_simp;go_wp2_with (go_at_call 93;refine Calls.mono (P:=Tryz.prog) HC.out ?_;intro e w9 hs;obtain⟨rfl,g9⟩:=hs);exact B.out _ _ ⟨_,rfl,I.out.step 22 _ ey g9 rfl⟩
   refine ar rfl ?_ ?_
   ·intro L f W C J E K B;rw[M f] at B ⊢;have bl:f 22= .tuple #[.int .i64 (AK:Int),.bool AB]:=C.held 22 (E 22 dV);rw[bl] at B ⊢;go_simp;exact B.out _ _ ⟨_,rfl,C.step 23 _ ey (af _) rfl⟩
   refine ar rfl ?_ ?_
   ·intro L f W C J E K B;rw[M f] at B ⊢;have X:f 23= .tuple #[.int .i64 (AK:Int),.bool AB]:=C.held 23 (E 23 dV);rw[X] at B ⊢;go_simp;exact B.out _ _ ⟨_,rfl,C.step 24 _ ey (af _) rfl⟩
   refine ar rfl ?_ ?_
   ·intro L f W C J E K B;rw[M f] at B ⊢;have X:f 23= .tuple #[.int .i64 (AK:Int),.bool AB]:=C.held 23 (E 23 dV);rw[X] at B ⊢;go_simp;exact B.out _ _ ⟨_,rfl,C.step 25 _ ey (af _) rfl⟩
   refine ar rfl ?_ ?_
   ·intro L f W C J E K B;rw[M f] at B ⊢;have bn:f 24= .int .i64 (AK:Int):=C.held 24 (E 24 dV);rw[bn] at B ⊢;go_simp;exact B.out _ _ ⟨_,rfl,C.step 26 _ ey (af _) rfl⟩
   refine ar rfl ?_ ?_
   ·intro L f W C J E K B;rw[M f] at B ⊢;have bq:f 25= .bool AB:=C.held 25 (E 25 dV);rw[bq] at B ⊢;go_simp;exact B.out _ _ ⟨_,rfl,C.step 27 _ ey (af _) rfl⟩
   exact RV.Ones.nil
  ·skip
   intro f L w3 C J;have d:f 26= .int .i64 (AK:Int):=C.held 26 (J 26 ey);have k:f 27= .bool AB:=C.held 27 (J 27 ey);have g3:=C.g;rw[M f,d,k];generalize f 0=em,f 1=ep,f 2=fs,f 3=fv,f 4=ga,f 5=gg,f 6=gm,f 7=hc,f 8=hd,f 9=he,f 10=cb,f 11=cc,f 12=cd,f 13=ce,f 14=ci,f 15=cl,f 16=cn,f 17=cr,f 18=cs,f 19=cx,f 20=cz,f 21=dk,f 22=dl,f 23=dq,f 24=dr,f 25=ds at *;clear C J M d k;refine wpAny_done dV ?_ _;obtain rfl:AB=false:=c.out;clear HU c;go_wp2_with fail;refine Calls.mono (P:=Tryz.prog) (HF.out _) ?_;rintro e w4 ⟨rfl,g4⟩;have Y:=aa g3 g4;obtain⟨an,ao,ap,bi⟩:=eU R0 (Y);go_wp2_with fail;go_wp2_with fail;have hT:Hid (Rec _ (w.heap.size) [.int .i64 1,.int .i64 AK]):=Rec.set2 (bs R0.out (Y));have g9:=Rec.h2 hT.out (aa g0 Y) dT;generalize (World.setCell (World.setCell w4 ⟨w.heap.size,0,none⟩ (.int .i64 1)) ⟨w.heap.size,1,none⟩ (.int .i64 AK))=w9 at *;obtain⟨bu,bv,bz,ca⟩:=eU hT (((af _)));refine bodyPost_ret (v:= .tuple #[.pointer none,.agg #[.int .i64 1,.int .i64 AK]]) (by simp [results,Tryz.results40,go_sem, *]) rfl ?_;exact Or.inl ⟨by omega,rfl,g9⟩
theorem lu:∀ l:List UInt8,(47:UInt8)∉l→Lib.indexByte l 47= -1
 |[],_=>rfl
 |c::r,h=>by
  have h1:=lu r (fun e=>h (dF _ e));have h2:(c==47)=false:=by rw[beq_eq_false_iff_ne];intro e;exact h (by rw[e];exact bS ..)
  show (if c==47 then (0:Int) else if Lib.indexByte r 47== -1 then -1 else Lib.indexByte r 47+1)= -1;rw[h2,h1];rfl
theorem lq:∀ (p u:List UInt8),(47:UInt8)∉p→Lib.indexByte (p++47::u) 47=(p.length:Int)
 |[],_,_=>rfl
 |c::r,u,h=>by
  have h1:=lq r u (fun e=>h (dF _ e));have h2:(c==47)=false:=by rw[beq_eq_false_iff_ne];intro e;exact h (by rw[e];exact bS ..)
  show (if c==47 then (0:Int) else if Lib.indexByte (r++47::u) 47== -1 then -1 else Lib.indexByte (r++47::u) 47+1)=_;rw[h2,h1];have h3:((r.length:Int)== -1)=false:=by rw[beq_eq_false_iff_ne];omega
  rw[h3];rfl
theorem q0C (w:World) (s:ByteArray) (l:List UInt8) (B:Tx s l) (h:(47:UInt8)∉l):Calls Tryz.prog 149 #[.string s,.string ⟨#[47]⟩] w fun e w'=>e= .returned (.tuple #[.string s,.string ⟨#[]⟩,.bool false])∧G w w':=by
 have C:Hid (∀ A,Calls Tryz.prog 192 #[.string s,.string ⟨#[47]⟩] A fun e w'=>e= .returned (.int .i64 (-1))∧w'=A):=fun A=>by
  have h1:=Tryz.stringslite_Index_one s 47 A;rw[show s.data.toList=l from B,lu l h] at h1;exact h1
 clear B h;go_enter Tryz.func149,Tryz.ntmps149;go_wp2_with fail;refine Calls.mono (P:=Tryz.prog) (C.out _) ?_;rintro e A ⟨rfl,rfl⟩;go_wp2_with fail;refine bodyPost_ret (v:= .tuple #[.string s,.string ⟨#[]⟩,.bool false]) (by simp [results,Tryz.results149,go_sem, *]) rfl ?_;exact⟨rfl,af _⟩
theorem q0B (w:World) (s A B:ByteArray) (p u:List UInt8) (E:Tx s (p++47::u)) (h:(47:UInt8)∉p) (N:s.size≤2000)
  (h1:∀ C,(Instr.slice 9 (.string s) none (some (.int .i64 (p.length:Int))) none).run Tryz.prog C= .ok (.string A) C) (h2:∀ C,(Instr.slice 9 (.string s) (some (.int .i64 ((p.length:Int)+1))) none none).run Tryz.prog C= .ok (.string B) C):
  Calls Tryz.prog 149 #[.string s,.string ⟨#[47]⟩] w fun e w'=>e= .returned (.tuple #[.string A,.string B,.bool true])∧G w w':=by
 have I:Hid (∀ C,Calls Tryz.prog 192 #[.string s,.string ⟨#[47]⟩] C fun e w'=>e= .returned (.int .i64 (p.length:Int))∧w'=C):=fun C=>by
  have h1:=Tryz.stringslite_Index_one s 47 C;rw[show s.data.toList=p++47::u from E,lq p u h] at h1;exact h1
 have F:=E.size;rw[ag] at F;have M:p.length≤2000:=by omega
 generalize p.length=k at *;clear E h F;go_enter Tryz.func149,Tryz.ntmps149;go_wp2_with fail;refine Calls.mono (P:=Tryz.prog) (I.out _) ?_;rintro e C ⟨rfl,rfl⟩;go_wp2_with fail;refine ee dV dV ?_;intro W J;clear J
 repeat (go_big_quiet_step (fail))
 refine wpQuiet_nil ?_;intro K D;go_wp2_with fail;refine bodyPost_ret (v:= .tuple #[.string A,.string B,.bool true]) (by simp [results,Tryz.results149,go_sem, *]) rfl ?_;exact⟨rfl,D⟩
theorem pB (w:World) (s A B:ByteArray) (b:Bool) (H:∀ C,Calls Tryz.prog 149 #[.string s,.string ⟨#[47]⟩] C fun e w'=>e= .returned (.tuple #[.string A,.string B,.bool b])∧G C w'):
  Calls Tryz.prog 94 #[.string s,.string ⟨#[47]⟩] w fun e w'=>e= .returned (.tuple #[.string A,.string B,.bool b])∧G w w':=by
 have D:Hid (∀ C,_):=H;clear H;go_enter Tryz.func94,Tryz.ntmps94;go_wp2_with fail;refine Calls.mono (P:=Tryz.prog) (D.out _) ?_;rintro e C ⟨rfl,g1⟩;go_wp2_with fail;refine bodyPost_ret (v:= .tuple #[.string A,.string B,.bool b]) (by simp [results,Tryz.results94,go_sem, *]) rfl ?_;exact⟨rfl,g1⟩
theorem q1C {t:List UInt8} (h:Digs t):(47:UInt8)∉t:=fun e=>by
 have:=isDig_iff.1 (h _ e);revert this;decide
theorem q1q (w:World) (s:ByteArray) (l:List UInt8) (A:Tx s l) (h:(47:UInt8)∉l):Calls Tryz.prog 94 #[.string s,.string ⟨#[47]⟩] w fun e w'=>e= .returned (.tuple #[.string s,.string ⟨#[]⟩,.bool false])∧G w w':=
 pB w s s ⟨#[]⟩ false (fun B=>q0C B s l A h)
theorem q0d (s:ByteArray) (p u:List UInt8) (C:Tx s (p++47::u)) (h:(47:UInt8)∉p) (E:s.size≤2000):∃ A B,Tx A p∧Tx B u∧∀ w,Calls Tryz.prog 94 #[.string s,.string ⟨#[47]⟩] w fun e w'=>e= .returned (.tuple #[.string A,.string B,.bool true])∧G w w':=by
 have F:=C.size;rw[ag,aK] at F;refine⟨s.extract 0 p.length,s.extract (p.length+1) s.size,?_,?_,fun w=>pB w s _ _ true (fun I=>q0B I s _ _ p u C h E (fun D=> ?_) (fun D=> ?_))⟩
 ·have h2:=C.part 0 p.length;rw[List.drop_zero,Nat.sub_zero,List.take_left] at h2;exact h2
 ·have h2:=C.part (p.length+1) s.size;rw[show p++47::u=(p++[47])++u from by simp,List.drop_left' eO,aw dT] at h2;exact h2
 ·rw[run_slice_string_to_if D 9 s .i64 _ dV,if_pos ⟨by omega,by omega⟩];rfl
 ·rw[run_slice_string_from_if D 9 s .i64 _ dV,if_pos ⟨by omega,by omega⟩];rfl
end Go.Proofs.YtfnkkkcojnffdaaGreatDoor.EN
