/- What is proved here: contracts of the law's helpers: Spoil, over this seat's translation.
What is proved here: what the reference says of fine lists: their lists, signs of differences, over this seat's translation.
What is proved here: contracts of the reference: PairOf, add, IsPair, over this seat's translation.
What is proved here: contracts of package expan: what the four ways of pairs answer, over this seat's translation.
What is proved here: the law ExpanPairs: its walk where one of them is no pair, over this seat's translation.
What is proved here: the law ExpanPairs: its walk where both are pairs, the second one not 0, over this seat's translation.
What is proved here: the law ExpanPairs: its walk where both are pairs, the second one 0, over this seat's translation.
What is proved here: the law ExpanPairs, over this seat's translation. -/
import Derived.Test.YtljkfjjchkehaaaGreatDoorP35
import Derived.Laws.CopyRow
import Derived.Test.YtljkfjjchkehaaaGreatDoorP34
import Derived.Test.YtljkfjjchkehaaaGreatDoorP34
import Derived.Test.YtljkfjjchkehaaaGreatDoorP34
import Derived.Test.YtljkfjjchkehaaaGreatDoorP33
namespace Go.Proofs.YtljkfjjchkehaaaGreatDoor.EN
open Go.ChangeShapes Go.WideShapes Go.ChangeAt Go.RowKit
/-- What is left standing where a list is spoilt. -/
structure Spoilt (base:Nat) (v:Value) (w w':World):Prop where
 g:∀ w0:World,w0.heap.size≤base→G w0 w→G w0 w'
 oth:∀ k,v.ownBlock≠some k→w'.heap[k]? =w.heap[k]?
end Go.Proofs.YtljkfjjchkehaaaGreatDoor.EN
namespace Go.Proofs.YtljkfjjchkehaaaGreatDoor.EN
open Go.RowKit
theorem qcf {k:Nat} {x:Rat} {L:List Nat} {o:Bool} (h:Fr k x L o):∀ b∈L,fex b<2047:=by
 induction h with
 |zero k=>exact fun _ h=>nomatch h
 |most v=>exact fun _ h=>nomatch h
 |bad k v h0 hq hb=>exact fun _ h=>nomatch h
 |step k v l o h0 hq h1 h2 h ih=>
  intro b hb
  rcases List.mem_cons.1 hb with e|e
  ·rw[e];exact h1
  ·exact ih b e
theorem qab {k:Nat} {L:List Nat} {o:Bool} (h:Fr (k+1) 0 L o):L=[]∧o=true:=by
 generalize hx:(0:Rat)=x at h
 cases h with
 |zero k=>exact⟨rfl,rfl⟩
 |bad k v h0 hq hb=>exact absurd hx.symm h0
 |step k v l o h0 hq h1 h2 h=>exact absurd hx.symm h0
/-- What stands of a list that may be refused. -/
def lA (L:List Nat) (o:Bool):List Nat:=if o then L else []
def cA (o:Bool):Int:=if o then 0 else 3
/-- A call hands back a list in a block of its own, or nil; and a fault. -/
def RetO (w:World) (L:List Nat) (c a:Int) (e:Ending) (w':World):Prop:=∃ v:Value,e= .returned (.tuple #[v,.agg #[.int .i64 c,.int .i64 a]])∧G w w'∧FOwn w' w.heap.size v L
theorem RetListO.ret {w:World} {L:List Nat} {o:Bool} {e:Ending} {w':World} (h:RetListO w L o e w'):RetO w (lA L o) (cA o) 0 e w':=by
 obtain⟨v,c,rfl,g,⟨rfl,rfl,h⟩|⟨rfl,rfl,rfl⟩⟩:=h
 ·exact⟨v,rfl,g,h⟩
 ·exact⟨_,rfl,g,q1N _ _⟩
/-- What was answered first lies apart from what is answered later. -/
theorem FOwn.apart {w w':World} {base base':Nat} {v u:Value} {l m:List Nat} (h:FOwn w base v l) (h':FOwn w' base' u m) (hs:w.heap.size≤base'):∀ b,v.ownBlock=some b→u.ownBlock≠some b:=by
 intro b hb
 refine h'.own (Or.inl ?_)
 apply Nat.lt_of_not_le
 intro hk
 exact h.own (b:=b) (Or.inr (by have:w.heap.size≤b:=Nat.le_of_not_lt (fun h2=>by omega);exact this)) hb
end Go.Proofs.YtljkfjjchkehaaaGreatDoor.EN
namespace Go.Proofs.YtljkfjjchkehaaaGreatDoor.EN
open Go.ChangeShapes Go.WideShapes Go.ChangeAt Go.RowKit
theorem q7E {L:List Nat} {i:Nat} (hi:i<2) (h:L.length≤2):(L++[0,0]).getD i 0=L.getD i 0∧i<(L++[0,0]).length:=by
 refine⟨?_,by simp;omega⟩
 rcases L with _|⟨a,_|⟨b,_|⟨c,t⟩⟩⟩
 ·have:i=0∨i=1:=by omega
  rcases this with rfl|rfl<;>rfl
 ·have:i=0∨i=1:=by omega
  rcases this with rfl|rfl<;>rfl
 ·have:i=0∨i=1:=by omega
  rcases this with rfl|rfl<;>rfl
 ·simp at h
theorem q6t (w:World) (p:Nat) (x:Rat) (L:List Nat) (o:Bool) (h:Fr 2 x L o) (hp:p<w.heap.size) (hx:RV w p x):
  Calls Tryz.prog 11 #[.pointer (some ⟨p,0,none⟩),.int .i64 2] w (q3h w L o):=by
 rcases hx with hx|⟨rfl,hx⟩
 ·exact q8H h w p (by omega) (Nat.le_trans (q5Y h) (by omega)) hp hx (fun b hb=>qci hb)
 ·obtain⟨rfl,rfl⟩:=qab h
  exact q3e w p 2 0 hx
/-- The first two entries of a list, where it isn't refused. -/
def pH (L:List Nat) (o:Bool) (i:Nat):Nat:=if o then L.getD i 0 else 0
set_option maxRecDepth 10000 in
theorem q1i (w:World) (p:Nat) (x:Rat) (L:List Nat) (o:Bool) (h:Fr 2 x L o) (hp:p<w.heap.size) (hx:RV w p x):
  Calls Tryz.prog 34 #[.pointer (some ⟨p,0,none⟩)] w fun e w'=>e= .returned (.tuple #[.float .f64 (pH L o 0),.float .f64 (pH L o 1),.bool o])∧G w w':=by
 have HL:Hid _:=q6t w p x L o h hp hx
 have hlen:=q5Y h
 clear h hp hx
 have hp0:o=true→pH L o 0=L.getD 0 0:=fun h=>by rw[h];rfl
 have hp1:o=true→pH L o 1=L.getD 1 0:=fun h=>by rw[h];rfl
 have hq0:o=false→pH L o 0=0:=fun h=>by rw[h];rfl
 have hq1:o=false→pH L o 1=0:=fun h=>by rw[h];rfl
 generalize pH L o 0=h0 at *
 generalize pH L o 1=h1 at *
 go_enter Tryz.func34,Tryz.ntmps34
 go_wp2_with fail
 refine Calls.mono (P:=Tryz.prog) HL.out ?_
 intro e1 w1 hs
 obtain⟨v1,rfl,g1,hv1⟩:=hs
 have Gi:G w1 (w1.alloc (.cells #[.float .f64 0,.float .f64 0] 26)):=(G.refl w1).alloc _
 have hs2:FSl (w1.alloc (.cells #[.float .f64 0,.float .f64 0] 26)) (.slice (some ⟨w1.heap.size,0,none⟩) 2 2) [0,0]:=q2M (Rec.new2 w1 _ _ _)
 have hown:FOwn (w1.alloc (.cells #[.float .f64 0,.float .f64 0] 26)) w.heap.size v1 L:=FOwn.G hv1 Gi
 obtain⟨v8,w8,hrun,pM,honto⟩:=q7G _ w.heap.size _ _ L [0,0] hown (G.trans g1 Gi).size hs2 (by simp;omega)
 have g8:G w w8:=honto.g w (Nat.le_refl _) (G.trans g1 Gi)
 obtain⟨b1,c1,rfl⟩:=hv1.len
 obtain⟨a8,c8,Pe,hc8,hcells⟩:=pM.fsl
 obtain⟨k0,k1⟩:=q7E (L:=L) (i:=0) (by omega) hlen
 obtain⟨k2,k3⟩:=q7E (L:=L) (i:=1) (by omega) hlen
 obtain⟨bb,o0,MU,yU,hx0⟩:=hcells 0 k1
 obtain⟨bb',SG,CU,Hq,hx1⟩:=hcells 1 k3
 rw[MU] at CU
 injection CU with e1
 injection e1 with e2 e3
 subst e2
 subst e3
 rw[k0] at hx0
 rw[k2] at hx1
 subst Pe
 subst MU
 have hn1:1<(L++[0,0]).length:=k3
 have hn0:0<(L++[0,0]).length:=k1
 rw[Nat.add_zero] at hx0
 clear HL hv1 hown honto pM g1 Gi hs2 hcells Hq hc8 k0 k1 k2 k3
 have HG:Hid (G w w8):=g8
 clear g8
 generalize (L++[0,0]).length=n at *
 cases o with
 |true=>
  have hx2:w8.drew.cell? ⟨bb,o0,none⟩=_:=hx0
  have hx3:w8.drew.cell? ⟨bb,o0+1,none⟩=_:=hx1
  rw[← hp0 rfl] at hx0 hx2
  rw[← hp1 rfl] at hx1 hx3
  clear hp0 hp1 hq0 hq1 hlen
  go_wp2_with (at_builtin;refine q20 _ rfl (.tmp 11) (.tmp 12) 22 rfl _ _ rfl rfl hrun ?_)
  clear hrun
  go_region
  go_wp2_with fail
  refine bodyPost_ret (v:= .tuple #[.float .f64 h0,.float .f64 h1,.bool true]) (by simp [results,Tryz.results34,go_sem, *]) rfl ?_
  exact⟨rfl,HG.out.drew⟩
 |false=>
  obtain rfl:=hq0 rfl
  obtain rfl:=hq1 rfl
  clear hp0 hp1 hq0 hq1 hlen hx0 hx1 hn0 hn1
  go_wp2_with (at_builtin;refine q20 _ rfl (.tmp 11) (.tmp 12) 22 rfl _ _ rfl rfl hrun ?_)
  refine bodyPost_ret (v:= .tuple #[.float .f64 0,.float .f64 0,.bool false]) (by simp [results,Tryz.results34,go_sem, *]) rfl ?_
  exact⟨rfl,HG.out⟩
/-- Not finite: no pair. -/
theorem q6r (w:World) (a b:Nat) (ha:a<2^64) (hb:b<2^64) (hf:¬ (fex a<2047∧fex b<2047)):
  Calls Tryz.prog 24 #[.float .f64 a,.float .f64 b] w fun e w'=>e= .returned (.int .i64 4)∧G w w':=by
 have HA:Hid (∀ w1,_):=fun w1=>q1M w1 a ha
 have HB:Hid (∀ w1,_):=fun w1=>q1M w1 b hb
 by_cases h1:fex a<2047
 ·have h2:¬ fex b<2047:=fun h=>hf ⟨h1,h⟩
  rw[decide_eq_true h1] at HA
  rw[decide_eq_false h2] at HB
  clear hf h1 h2 ha hb
  go_enter Tryz.func24,Tryz.ntmps24
  go_wp2_with fail
  refine Calls.mono (P:=Tryz.prog) (HA.out w) ?_
  rintro e1 w1 ⟨rfl,g1⟩
  go_wp2_with fail
  refine Calls.mono (P:=Tryz.prog) (HB.out w1) ?_
  rintro e2 w2 ⟨rfl,g2⟩
  go_wp2_with fail
  go_ret
  exact⟨rfl,G.trans g1 g2⟩
 ·rw[decide_eq_false h1] at HA
  clear hf h1 ha hb HB
  go_enter Tryz.func24,Tryz.ntmps24
  go_wp2_with fail
  refine Calls.mono (P:=Tryz.prog) (HA.out w) ?_
  rintro e1 w1 ⟨rfl,g1⟩
  go_wp2_with fail
  go_ret
  exact⟨rfl,g1⟩
/-- What a pair's check says: 0 for a pair, else 6. -/
def q2Z (L:List Nat) (o:Bool) (a b:Nat) (k:Int):Prop:=
 (k=6∧o=false)∨(k=6∧o=true∧(FloatKind.f64.format.order (L.getD 0 0) a==some .eq)=false)∨(k=6∧o=true∧(FloatKind.f64.format.order (L.getD 0 0) a==some .eq)=true∧(FloatKind.f64.format.order (L.getD 1 0) b==some .eq)=false)∨
 (k=0∧o=true∧(FloatKind.f64.format.order (L.getD 0 0) a==some .eq)=true∧(FloatKind.f64.format.order (L.getD 1 0) b==some .eq)=true)
theorem q7A (L:List Nat) (o:Bool) (a b:Nat):∃ k,q2Z L o a b k:=by
 unfold q2Z
 cases o with
 |false=>exact⟨6,Or.inl ⟨rfl,rfl⟩⟩
 |true=>
  cases (FloatKind.f64.format.order (L.getD 0 0) a==some .eq) with
  |false=>exact⟨6,Or.inr (Or.inl ⟨rfl,rfl,rfl⟩)⟩
  |true=>
   cases (FloatKind.f64.format.order (L.getD 1 0) b==some .eq) with
   |false=>exact⟨6,Or.inr (Or.inr (Or.inl ⟨rfl,rfl,rfl,rfl⟩))⟩
   |true=>exact⟨0,Or.inr (Or.inr (Or.inr ⟨rfl,rfl,rfl,rfl⟩))⟩
theorem ne_of {x:Option Ordering} {t:Bool} (h:(x==some .eq)=t):(x != some .eq)= !t:=by rw[← h];rfl
set_option maxRecDepth 10000 in
theorem q9d (w:World) (a b:Nat) (ha:a<2^64) (hb:b<2^64) (hfa:fex a<2047) (uA:fex b<2047) (L:List Nat) (o:Bool) (k:Int) (hF:Fr 2 (Uz (fz a+fz b)) L o) (hk:q2Z L o a b k):
  Calls Tryz.prog 24 #[.float .f64 a,.float .f64 b] w fun e w'=>e= .returned (.int .i64 k)∧G w w':=by
 have HA:Hid (∀ w1,_):=fun w1=>q1M w1 a ha
 have HB:Hid (∀ w1,_):=fun w1=>q1M w1 b hb
 rw[decide_eq_true hfa] at HA
 rw[decide_eq_true uA] at HB
 have HX:Hid (∀ w1,_):=fun w1=>q1Y w1 a ha hfa
 have HY:Hid (∀ w1,_):=fun w1=>q1Y w1 b hb uA
 have xC:Hid (∀ w1 p q,p<w1.heap.size→q<w1.heap.size→RIs w1 p (Uz (fz a))→RIs w1 q (Uz (fz b))→_):=fun w1 p q hp hq h1 h2=>q9h w1 p q (Uz (fz a)) (Uz (fz b)) (q3D a) (q3D b) hp hq h1 h2
 rw[q3N] at xC
 have HP:Hid (∀ w1 p,p<w1.heap.size→RV w1 p (Uz (fz a+fz b))→_):=fun w1 p hp hr=>q1i w1 p _ L o hF hp hr
 generalize Uz (fz a+fz b)=q at *
 clear ha hb hfa uA hF
 have hp0:o=true→pH L o 0=L.getD 0 0:=fun h=>by rw[h];rfl
 have hp1:o=true→pH L o 1=L.getD 1 0:=fun h=>by rw[h];rfl
 generalize pH L o 0=h0 at *
 generalize pH L o 1=h1 at *
 rcases hk with ⟨rfl,rfl⟩|⟨rfl,rfl,k1⟩|⟨rfl,rfl,k1,k2⟩|⟨rfl,rfl,k1,k2⟩
 ·clear hp0 hp1
  go_enter Tryz.func24,Tryz.ntmps24
  go_wp2_with fail
  refine Calls.mono (P:=Tryz.prog) (HA.out w) ?_
  rintro e1 w1 ⟨rfl,g1⟩
  go_wp2_with fail
  refine Calls.mono (P:=Tryz.prog) (HB.out w1) ?_
  rintro e2 w2 ⟨rfl,g2⟩
  have dJ:=G.trans g1 g2
  clear HA HB g1 g2
  go_wp2_with fail
  refine Calls.mono (P:=Tryz.prog) (HX.out w2) ?_
  rintro e3 w3 ⟨p3,rfl,g3,-,hp3,hr3⟩
  have HR3:Hid (RIs w3 p3 (Uz (fz a))):=hr3
  clear hr3
  go_wp2_with fail
  refine Calls.mono (P:=Tryz.prog) (HY.out w3) ?_
  rintro e4 w4 ⟨p4,rfl,g4,-,jQ,hr4⟩
  have HC:Hid _:=xC.out w4 p3 p4 (G.lt g4 hp3) jQ (HR3.out.G hp3 g4) hr4
  have jN:=G.trans dJ (G.trans g3 g4)
  clear hr4 HR3 HX HY xC dJ g3 g4 hp3 jQ
  go_wp2_with fail
  refine Calls.mono (P:=Tryz.prog) HC.out ?_
  rintro e5 w5 ⟨p5,rfl,g5,-,uM,ny⟩
  have jf:Hid _:=HP.out w5 p5 uM (Or.inl ny)
  have mZ:=G.trans jN g5
  clear ny HC HP uM jN g5
  go_wp2_with fail
  refine Calls.mono (P:=Tryz.prog) jf.out ?_
  rintro e6 w6 ⟨rfl,g6⟩
  have uN:=G.trans mZ g6
  clear jf mZ g6
  go_wp2_with fail
  go_ret
  exact⟨rfl,uN⟩
 ·rw[← hp0 rfl] at k1
  have j1:=ne_of k1
  clear hp0 hp1 k1
  go_enter Tryz.func24,Tryz.ntmps24
  go_wp2_with fail
  refine Calls.mono (P:=Tryz.prog) (HA.out w) ?_
  rintro e1 w1 ⟨rfl,g1⟩
  go_wp2_with fail
  refine Calls.mono (P:=Tryz.prog) (HB.out w1) ?_
  rintro e2 w2 ⟨rfl,g2⟩
  have dJ:=G.trans g1 g2
  clear HA HB g1 g2
  go_wp2_with fail
  refine Calls.mono (P:=Tryz.prog) (HX.out w2) ?_
  rintro e3 w3 ⟨p3,rfl,g3,-,hp3,hr3⟩
  have HR3:Hid (RIs w3 p3 (Uz (fz a))):=hr3
  clear hr3
  go_wp2_with fail
  refine Calls.mono (P:=Tryz.prog) (HY.out w3) ?_
  rintro e4 w4 ⟨p4,rfl,g4,-,jQ,hr4⟩
  have HC:Hid _:=xC.out w4 p3 p4 (G.lt g4 hp3) jQ (HR3.out.G hp3 g4) hr4
  have jN:=G.trans dJ (G.trans g3 g4)
  clear hr4 HR3 HX HY xC dJ g3 g4 hp3 jQ
  go_wp2_with fail
  refine Calls.mono (P:=Tryz.prog) HC.out ?_
  rintro e5 w5 ⟨p5,rfl,g5,-,uM,ny⟩
  have jf:Hid _:=HP.out w5 p5 uM (Or.inl ny)
  have mZ:=G.trans jN g5
  clear ny HC HP uM jN g5
  go_wp2_with fail
  refine Calls.mono (P:=Tryz.prog) jf.out ?_
  rintro e6 w6 ⟨rfl,g6⟩
  have uN:=G.trans mZ g6
  clear jf mZ g6
  go_wp2_with fail
  go_ret
  exact⟨rfl,uN⟩
 ·rw[← hp0 rfl] at k1
  rw[← hp1 rfl] at k2
  have j1:=ne_of k1
  have j2:=ne_of k2
  clear hp0 hp1 k1 k2
  go_enter Tryz.func24,Tryz.ntmps24
  go_wp2_with fail
  refine Calls.mono (P:=Tryz.prog) (HA.out w) ?_
  rintro e1 w1 ⟨rfl,g1⟩
  go_wp2_with fail
  refine Calls.mono (P:=Tryz.prog) (HB.out w1) ?_
  rintro e2 w2 ⟨rfl,g2⟩
  have dJ:=G.trans g1 g2
  clear HA HB g1 g2
  go_wp2_with fail
  refine Calls.mono (P:=Tryz.prog) (HX.out w2) ?_
  rintro e3 w3 ⟨p3,rfl,g3,-,hp3,hr3⟩
  have HR3:Hid (RIs w3 p3 (Uz (fz a))):=hr3
  clear hr3
  go_wp2_with fail
  refine Calls.mono (P:=Tryz.prog) (HY.out w3) ?_
  rintro e4 w4 ⟨p4,rfl,g4,-,jQ,hr4⟩
  have HC:Hid _:=xC.out w4 p3 p4 (G.lt g4 hp3) jQ (HR3.out.G hp3 g4) hr4
  have jN:=G.trans dJ (G.trans g3 g4)
  clear hr4 HR3 HX HY xC dJ g3 g4 hp3 jQ
  go_wp2_with fail
  refine Calls.mono (P:=Tryz.prog) HC.out ?_
  rintro e5 w5 ⟨p5,rfl,g5,-,uM,ny⟩
  have jf:Hid _:=HP.out w5 p5 uM (Or.inl ny)
  have mZ:=G.trans jN g5
  clear ny HC HP uM jN g5
  go_wp2_with fail
  refine Calls.mono (P:=Tryz.prog) jf.out ?_
  rintro e6 w6 ⟨rfl,g6⟩
  have uN:=G.trans mZ g6
  clear jf mZ g6
  go_wp2_with fail
  go_ret
  exact⟨rfl,uN⟩
 ·rw[← hp0 rfl] at k1
  rw[← hp1 rfl] at k2
  have j1:=ne_of k1
  have j2:=ne_of k2
  clear hp0 hp1 k1 k2
  go_enter Tryz.func24,Tryz.ntmps24
  go_wp2_with fail
  refine Calls.mono (P:=Tryz.prog) (HA.out w) ?_
  rintro e1 w1 ⟨rfl,g1⟩
  go_wp2_with fail
  refine Calls.mono (P:=Tryz.prog) (HB.out w1) ?_
  rintro e2 w2 ⟨rfl,g2⟩
  have dJ:=G.trans g1 g2
  clear HA HB g1 g2
  go_wp2_with fail
  refine Calls.mono (P:=Tryz.prog) (HX.out w2) ?_
  rintro e3 w3 ⟨p3,rfl,g3,-,hp3,hr3⟩
  have HR3:Hid (RIs w3 p3 (Uz (fz a))):=hr3
  clear hr3
  go_wp2_with fail
  refine Calls.mono (P:=Tryz.prog) (HY.out w3) ?_
  rintro e4 w4 ⟨p4,rfl,g4,-,jQ,hr4⟩
  have HC:Hid _:=xC.out w4 p3 p4 (G.lt g4 hp3) jQ (HR3.out.G hp3 g4) hr4
  have jN:=G.trans dJ (G.trans g3 g4)
  clear hr4 HR3 HX HY xC dJ g3 g4 hp3 jQ
  go_wp2_with fail
  refine Calls.mono (P:=Tryz.prog) HC.out ?_
  rintro e5 w5 ⟨p5,rfl,g5,-,uM,ny⟩
  have jf:Hid _:=HP.out w5 p5 uM (Or.inl ny)
  have mZ:=G.trans jN g5
  clear ny HC HP uM jN g5
  go_wp2_with fail
  refine Calls.mono (P:=Tryz.prog) jf.out ?_
  rintro e6 w6 ⟨rfl,g6⟩
  have uN:=G.trans mZ g6
  clear jf mZ g6
  go_wp2_with fail
  go_ret
  exact⟨rfl,uN⟩
theorem q2i (w:World) (v:Value) (x:Rat) (L:List Nat) (o:Bool) (hT:Tab w) (h:QIs w v x) (hF:Fr 2 x L o):
  Calls Tryz.prog 106 #[v] w fun e w'=>e= .returned (.tuple #[.agg #[.float .f64 (pH L o 0),.float .f64 (pH L o 1)],.int .i64 (cA o)])∧G w w':=by
 cases o with
 |true=>exact q4d w v x L hT h hF
 |false=>exact q5v w v x L hT h (q5Y hF) hF
theorem q3Q (w:World) (x y:Nat) (L:List Nat) (o:Bool) (k:Int) (hT:Tab w) (hx:x<2^64) (hy:y<2^64) (hfx:fex x<2047) (yT:fex y<2047) (hF:Fr 2 (Uz (fz x+fz y)) L o) (hk:q2Z L o x y k):
  Calls Tryz.prog 105 #[.agg #[.float .f64 x,.float .f64 y]] w (q15 w (if k=0 then Uz (fz x+fz y) else 0) k):=by
 have hP:∀ w2 v,G w w2→QIs w2 v (Uz ([x,y].map fz).sum)→_:=fun w2 v g hv=>q2i w2 v _ L o (hT.G g) (by rw[q1P] at hv;exact hv) hF
 rcases hk with ⟨rfl,rfl⟩|⟨rfl,rfl,k1⟩|⟨rfl,rfl,k1,k2⟩|⟨rfl,rfl,k1,k2⟩
 ·rw[if_neg (by decide)]
  exact q2O w x y 0 0 3 hT hx hy hfx yT hP (Or.inl rfl)
 ·rw[if_neg (by decide)]
  exact q2O w x y _ _ 0 hT hx hy hfx yT hP (Or.inr ⟨rfl,Or.inl k1⟩)
 ·rw[if_neg (by decide)]
  exact q2O w x y _ _ 0 hT hx hy hfx yT hP (Or.inr ⟨rfl,Or.inr ⟨k1,k2⟩⟩)
 ·have h:=q5O w x y L hT hx hy hfx yT (by rw[q1P];exact hF) k1 k2
  rw[q1P] at h
  rw[if_pos rfl]
  exact h
/-- What both sides say of a pair: k, and where it is 0 its number. -/
def PC (w:World) (x y:Nat) (k:Int):Prop:=
 (∀ w1,G w w1→Calls Tryz.prog 24 #[.float .f64 x,.float .f64 y] w1 fun e w'=>e= .returned (.int .i64 k)∧G w1 w')∧
 (∃ u,∀ w1,G w w1→Calls Tryz.prog 105 #[.agg #[.float .f64 x,.float .f64 y]] w1 (q15 w1 u k))∧
 (k=0→fex x<2047∧fex y<2047∧∀ w1,G w w1→Calls Tryz.prog 105 #[.agg #[.float .f64 x,.float .f64 y]] w1 (q15 w1 (Uz (fz x+fz y)) 0))
theorem qa0 (w:World) (x y:Nat) (hT:Tab w) (hx:x<2^64) (hy:y<2^64):∃ k,PC w x y k:=by
 by_cases hf:fex x<2047∧fex y<2047
 ·obtain⟨L,o,hF⟩:=qaS x y
  obtain⟨k,hk⟩:=q7A L o x y
  refine⟨k,fun w1 g=>q9d w1 x y hx hy hf.1 hf.2 L o k hF hk,⟨_,fun w1 g=>q3Q w1 x y L o k (hT.G g) hx hy hf.1 hf.2 hF hk⟩,fun h0=>⟨hf.1,hf.2,fun w1 g=> ?_⟩⟩
  have h:=q3Q w1 x y L o k (hT.G g) hx hy hf.1 hf.2 hF hk
  rw[h0,if_pos rfl] at h
  exact h
 ·exact⟨4,fun w1 g=>q6r w1 x y hx hy hf,⟨0,fun w1 g=>q7Q w1 x y (hT.G g) hx hy hf⟩,fun h0=>absurd h0 (by decide)⟩
/-- What a way of pairs answers. -/
def q1E (F:Nat) (w:World) (a b c d hi lo:Nat) (k:Int):Prop:=∀ w1,G w w1→
 Calls Tryz.prog F #[.agg #[.float .f64 a,.float .f64 b],.agg #[.float .f64 c,.float .f64 d]] w1 fun e w'=>e= .returned (.tuple #[.agg #[.float .f64 hi,.float .f64 lo],.int .i64 k])∧G w1 w'
/-- Where one of them is no pair, all four tell so. -/
theorem qao (w:World) (a b c d:Nat) (k1 k2 k:Int) (h1:PC w a b k1) (h2:PC w c d k2) (hk:(k1≠0∧k=k1)∨(k1=0∧k2≠0∧k=k2)):
  q1E 25 w a b c d 0 0 k∧q1E 26 w a b c d 0 0 k∧q1E 27 w a b c d 0 0 k∧q1E 28 w a b c d 0 0 k:=by
 obtain⟨-,⟨u1,hv1⟩,h0⟩:=h1
 obtain⟨-,⟨u2,hv2⟩,-⟩:=h2
 have hR:∀ w1 fv,G w w1→Calls Tryz.prog 60 #[.agg #[.float .f64 a,.float .f64 b],.agg #[.float .f64 c,.float .f64 d],fv] w1 fun e w'=>e= .returned (.tuple #[.agg #[.float .f64 0,.float .f64 0],.int .i64 k])∧G w1 w':=by
  intro w1 fv g
  rcases hk with ⟨hk,rfl⟩|⟨rfl,hk,rfl⟩
  ·exact q9w w1 a b c d fv u1 _ hk (fun w2 g2=>hv1 w2 (G.trans g g2))
  ·exact q9e w1 a b c d fv u1 u2 _ hk (fun w2 g2=>hv1 w2 (G.trans g g2)) (fun w2 g2=>hv2 w2 (G.trans g g2))
 exact⟨fun w1 g=>q9D w1 a b c d 0 0 k (fun w2 v g2 _=>hR w2 v (G.trans g g2)),fun w1 g=>q9K w1 a b c d 0 0 k (fun w2 v g2 _=>hR w2 v (G.trans g g2)),
  fun w1 g=>q9J w1 a b c d 0 0 k (fun w2 v g2 _=>hR w2 v (G.trans g g2)),fun w1 g=>q3V w1 a b c d 0 0 k (fun w2 g2=>hR w2 _ (G.trans g g2))⟩
/-- Both are pairs: what comes of a way that has no errors. -/
theorem q3X (_ w1:World) (a b c d F:Nat) (v:Value) (x y r:Rat) (L:List Nat) (o:Bool) (hT:Tab w1) (hv:FnIs F w1 v)
  (hx:∀ w2,G w1 w2→Calls Tryz.prog 105 #[.agg #[.float .f64 a,.float .f64 b]] w2 (q15 w2 x 0))
  (hy:∀ w2,G w1 w2→Calls Tryz.prog 105 #[.agg #[.float .f64 c,.float .f64 d]] w2 (q15 w2 y 0))
  (hD:∀ w2 p q,G w1 w2→QIs w2 p x→QIs w2 q y→Calls Tryz.prog F #[p,q] w2 (RetQ w2 r)) (hE:∀ args w,(callFunc F args).run Tryz.prog w= .ok (.enter F args) w) (hF:Fr 2 r L o):
  Calls Tryz.prog 60 #[.agg #[.float .f64 a,.float .f64 b],.agg #[.float .f64 c,.float .f64 d],v] w1 fun e w'=>e= .returned (.tuple #[.agg #[.float .f64 (pH L o 0),.float .f64 (pH L o 1)],.int .i64 (cA o)])∧G w1 w':=by
 obtain⟨bl,rfl,hbl,hcell⟩:=hv
 exact q5a w1 a b c d _ _ 107 #[.pointer (some ⟨bl,0,none⟩)] x y r (cA o) hx hy
  (fun w2 p q g hp hq=>qcw w2 bl F p q x y r hp hq (G.lt g hbl) (g.cell (p:=⟨bl,0,none⟩) hbl hcell) (fun w3 p3 q3 g3 hp3 hq3=>hD w3 p3 q3 (G.trans g g3) hp3 hq3) hE)
  (fun _ _=>by kernel_rfl) (fun w2 p g hp=>q2i w2 p r L o (hT.G g) hp hF)
theorem qb7 (w:World) (a b c d:Nat) (L:List Nat) (o:Bool) (hT:Tab w) (h1:PC w a b 0) (h2:PC w c d 0) (hF:Fr 2 (Uz (fz a+fz b)+Uz (fz c+fz d)) L o):q1E 25 w a b c d (pH L o 0) (pH L o 1) (cA o):=
 fun w1 g=>q9D w1 a b c d _ _ _ (fun w2 v g2 hv=>q3X w w2 a b c d _ v _ _ _ L o (hT.G (G.trans g g2)) hv (fun w3 g3=>(h1.2.2 rfl).2.2 w3 (G.trans g (G.trans g2 g3))) (fun w3 g3=>(h2.2.2 rfl).2.2 w3 (G.trans g (G.trans g2 g3)))
  (fun w3 p q g3 hp hq=>q9L w3 p q _ _ 80 (by omega) (by omega) (hT.G (G.trans g (G.trans g2 g3))) hp hq (q0C _ _) (q0C _ _)) (fun _ _=>by kernel_rfl) hF)
theorem qc7 (w:World) (a b c d:Nat) (L:List Nat) (o:Bool) (hT:Tab w) (h1:PC w a b 0) (h2:PC w c d 0) (hF:Fr 2 (Uz (fz a+fz b)-Uz (fz c+fz d)) L o):q1E 26 w a b c d (pH L o 0) (pH L o 1) (cA o):=
 fun w1 g=>q9K w1 a b c d _ _ _ (fun w2 v g2 hv=>q3X w w2 a b c d _ v _ _ _ L o (hT.G (G.trans g g2)) hv (fun w3 g3=>(h1.2.2 rfl).2.2 w3 (G.trans g (G.trans g2 g3))) (fun w3 g3=>(h2.2.2 rfl).2.2 w3 (G.trans g (G.trans g2 g3)))
  (fun w3 p q g3 hp hq=>q9W w3 p q _ _ 80 (by omega) (by omega) (hT.G (G.trans g (G.trans g2 g3))) hp hq (q0C _ _) (q0C _ _)) (fun _ _=>by kernel_rfl) hF)
theorem qcl (w:World) (a b c d:Nat) (L:List Nat) (o:Bool) (hT:Tab w) (h1:PC w a b 0) (h2:PC w c d 0) (hF:Fr 2 (Uz (fz a+fz b)*Uz (fz c+fz d)) L o):q1E 27 w a b c d (pH L o 0) (pH L o 1) (cA o):=
 fun w1 g=>q9J w1 a b c d _ _ _ (fun w2 v g2 hv=>q3X w w2 a b c d _ v _ _ _ L o (hT.G (G.trans g g2)) hv (fun w3 g3=>(h1.2.2 rfl).2.2 w3 (G.trans g (G.trans g2 g3))) (fun w3 g3=>(h2.2.2 rfl).2.2 w3 (G.trans g (G.trans g2 g3)))
  (fun w3 p q g3 hp hq=>q9N w3 p q _ _ 80 (by omega) (by omega) (hT.G (G.trans g (G.trans g2 g3))) hp hq (q0C _ _) (q0C _ _)) (fun _ _=>by kernel_rfl) hF)
theorem qcp (w:World) (a b c d:Nat) (L:List Nat) (o:Bool) (hT:Tab w) (h1:PC w a b 0) (h2:PC w c d 0) (h0:Uz (fz c+fz d)≠0) (hF:Fr 2 (Uz (fz a+fz b)/Uz (fz c+fz d)) L o):q1E 28 w a b c d (pH L o 0) (pH L o 1) (cA o):=
 fun w1 g=>q3V w1 a b c d _ _ _ (fun w2 g2=>q5a w2 a b c d _ _ _ #[] _ _ _ (cA o) (fun w3 g3=>(h1.2.2 rfl).2.2 w3 (G.trans g (G.trans g2 g3))) (fun w3 g3=>(h2.2.2 rfl).2.2 w3 (G.trans g (G.trans g2 g3)))
  (fun w3 p q g3 hp hq=>by
   have h:=q8c w3 p q _ _ 80 (by omega) (by omega) (hT.G (G.trans g (G.trans g2 g3))) hp hq (q0C _ _) (q0C _ _)
   rw[if_neg h0,if_neg h0] at h
   exact h) (fun _ _=>by kernel_rfl) (fun w3 p g3 hp=>q2i w3 p _ L o (hT.G (G.trans g (G.trans g2 g3))) hp hF))
theorem q6m (w:World) (a b c d:Nat) (hT:Tab w) (h1:PC w a b 0) (h2:PC w c d 0) (h0:Uz (fz c+fz d)=0):q1E 28 w a b c d 0 0 5:=
 fun w1 g=>q3V w1 a b c d 0 0 5 (fun w2 g2=>q6P w2 a b c d _ #[] _ _ 0 5 (by decide) (fun w3 g3=>(h1.2.2 rfl).2.2 w3 (G.trans g (G.trans g2 g3))) (fun w3 g3=>(h2.2.2 rfl).2.2 w3 (G.trans g (G.trans g2 g3)))
  (fun w3 p q g3 hp hq=>by
   have h:=q8c w3 p q _ _ 80 (by omega) (by omega) (hT.G (G.trans g (G.trans g2 g3))) hp hq (q0C _ _) (q0C _ _)
   rw[if_pos h0,if_pos h0] at h
   exact h) (fun _ _=>by kernel_rfl))
attribute [local go_sem] q0m
set_option maxHeartbeats 4000000 in
set_option maxRecDepth 10000 in
theorem q4F (w:World) (a b c d:Nat) (k1 k2 k:Int) (hT:Tab w) (h1:PC w a b k1) (h2:PC w c d k2) (hk:(k1≠0∧k=k1)∨(k1=0∧k2≠0∧k=k2)):
  Calls Tryz.prog 4 #[.float .f64 a,.float .f64 b,.float .f64 c,.float .f64 d] w fun e w'=>e= .returned (.bool true)∧G w w':=by
 have HS:Hid _:=q3v w hT
 obtain⟨o0,o1,o2,o3⟩:=qao w a b c d k1 k2 k h1 h2 hk
 have H0:Hid (q1E _ w a b c d 0 0 k):=o0
 have H1:Hid (q1E _ w a b c d 0 0 k):=o1
 have H2:Hid (q1E _ w a b c d 0 0 k):=o2
 have H3:Hid (q1E _ w a b c d 0 0 k):=o3
 have iV:Hid (∀ w1,G w w1→_):=h1.1
 have kQ:Hid (∀ w1,G w w1→_):=h2.1
 have hk0:(k==0)=false:=by
  have:k≠0:=by rcases hk with ⟨h,rfl⟩|⟨-,h,rfl⟩<;>exact h
  simpa using this
 have hz:(FloatKind.f64.format.order 0 0==some .eq)=true:=by kernel_rfl
 have hz2:(FloatKind.f64.format.order 0 0 != some .eq)=false:=by kernel_rfl
 clear o0 o1 o2 o3 h1 h2 hT
 rcases hk with ⟨-,rfl⟩|⟨rfl,-,rfl⟩
 ·skip
  go_enter Tryz.func4,Tryz.ntmps4
  go_wp2_with fail
  refine Calls.mono (P:=Tryz.prog) HS.out ?_
  rintro e1 w1 ⟨rfl,g1⟩
  go_wp2_with fail
  obtain⟨w2,aD,g2,hz2,R0,R1⟩:=q1B w1 [.float .f64 a,.float .f64 b] [.float .f64 c,.float .f64 d] 54 54
  rw[aD]
  clear aD
  have dJ:=G.trans g1 g2
  refine Calls.mono (P:=Tryz.prog) (iV.out w2 dJ) ?_
  rintro e3 w3 ⟨rfl,g3⟩
  have lF:=G.trans dJ g3
  have RP:Hid (Rec w3 w1.heap.size _):=Rec.G R0.out g3
  have RQ:Hid (Rec w3 (w1.heap.size+1) _):=Rec.G R1.out g3
  clear HS iV R0 R1 hz2 g1 g2 g3 dJ
  go_wp2_with fail
  have lJ:=Rec.new4 w3 (.func (.func 25) #[] #[]) (.func (.func 26) #[] #[]) (.func (.func 27) #[] #[]) (.func (.func 28) #[] #[]) 56
  have ga:=(G.refl w3).alloc (.cells #[.func (.func 25) #[] #[],.func (.func 26) #[] #[],.func (.func 27) #[] #[],.func (.func 28) #[] #[]] 56)
  have sj:=G.trans lF ga
  generalize w3.alloc (.cells #[.func (.func 25) #[] #[],.func (.func 26) #[] #[],.func (.func 27) #[] #[],.func (.func 28) #[] #[]] 56)=wL at *
  generalize w3.heap.size=row at *
  have RW:Hid (Rec wL row _):=lJ
  have zH:Hid (Rec wL w1.heap.size _):=Rec.G RP.out ga
  have zI:Hid (Rec wL (w1.heap.size+1) _):=Rec.G RQ.out ga
  clear lJ ga RP RQ lF
  go_loopw [41] (fun vk wr=>∃ k:Nat,k≤4∧vk= .int .i64 k∧G wL wr) (fun vk _=>4-(intOf vk).toNat)
  case atStart=>exact⟨0,Nat.zero_le _,rfl,G.refl _⟩
  case round=>
   obtain⟨k,hk,rfl,hG⟩:=hrel
   have jc:Hid (Rec wr w1.heap.size _):=Rec.G zH.out hG
   have jd:Hid (Rec wr (w1.heap.size+1) _):=Rec.G zI.out hG
   have je:Hid (Rec wr row _):=Rec.G RW.out hG
   have iE:=G.trans sj hG
   by_cases hkn:k<4
   ·have hks:k=0∨k=1∨k=2∨k=3:=by omega
    rcases hks with rfl|rfl|rfl|rfl
    ·skip
     have ax:=Rec.f2 (Rec.G jc.out (G.refl _))
     have aO:=ax.1
     have aP:=ax.2.1
     have aQ:=ax.2.2.1
     have aR:=ax.2.2.2
     clear ax
     have ay:=Rec.f2 (Rec.G jd.out (G.refl _))
     have aS:=ay.1
     have aT:=ay.2.1
     have aU:=ay.2.2.1
     have aV:=ay.2.2.2
     clear ay
     have ah:=Rec.f4 (Rec.G je.out (G.refl _))
     have aW:=ah.1
     have aX:=ah.2.1
     have aY:=ah.2.2.1
     have aZ:=ah.2.2.2.1
     have bg:=ah.2.2.2.2.1
     have bn:=ah.2.2.2.2.2.1
     have bC:=ah.2.2.2.2.2.2.1
     have bD:=ah.2.2.2.2.2.2.2
     clear ah
     go_wp2_with fail
     clear aO aP aQ aR aS aT aU aV aW aX aY aZ bg bn bC bD
     clear jc jd je
     refine Calls.mono (P:=Tryz.prog) (H0.out wr iE) ?_
     rintro e10 aM ⟨rfl,g10⟩
     have dP:=G.trans iE g10
     have cK:=G.trans hG g10
     clear hG g10
     go_wp2_with fail
     exact⟨⟨1,by omega,rfl,cK.alloc _⟩,by decide⟩
    ·skip
     have ax:=Rec.f2 (Rec.G jc.out (G.refl _))
     have aO:=ax.1
     have aP:=ax.2.1
     have aQ:=ax.2.2.1
     have aR:=ax.2.2.2
     clear ax
     have ay:=Rec.f2 (Rec.G jd.out (G.refl _))
     have aS:=ay.1
     have aT:=ay.2.1
     have aU:=ay.2.2.1
     have aV:=ay.2.2.2
     clear ay
     have ah:=Rec.f4 (Rec.G je.out (G.refl _))
     have aW:=ah.1
     have aX:=ah.2.1
     have aY:=ah.2.2.1
     have aZ:=ah.2.2.2.1
     have bg:=ah.2.2.2.2.1
     have bn:=ah.2.2.2.2.2.1
     have bC:=ah.2.2.2.2.2.2.1
     have bD:=ah.2.2.2.2.2.2.2
     clear ah
     go_wp2_with fail
     clear aO aP aQ aR aS aT aU aV aW aX aY aZ bg bn bC bD
     clear jc jd je
     refine Calls.mono (P:=Tryz.prog) (H1.out wr iE) ?_
     rintro e10 aM ⟨rfl,g10⟩
     have dP:=G.trans iE g10
     have cK:=G.trans hG g10
     clear hG g10
     go_wp2_with fail
     exact⟨⟨2,by omega,rfl,cK.alloc _⟩,by decide⟩
    ·skip
     have ax:=Rec.f2 (Rec.G jc.out (G.refl _))
     have aO:=ax.1
     have aP:=ax.2.1
     have aQ:=ax.2.2.1
     have aR:=ax.2.2.2
     clear ax
     have ay:=Rec.f2 (Rec.G jd.out (G.refl _))
     have aS:=ay.1
     have aT:=ay.2.1
     have aU:=ay.2.2.1
     have aV:=ay.2.2.2
     clear ay
     have ah:=Rec.f4 (Rec.G je.out (G.refl _))
     have aW:=ah.1
     have aX:=ah.2.1
     have aY:=ah.2.2.1
     have aZ:=ah.2.2.2.1
     have bg:=ah.2.2.2.2.1
     have bn:=ah.2.2.2.2.2.1
     have bC:=ah.2.2.2.2.2.2.1
     have bD:=ah.2.2.2.2.2.2.2
     clear ah
     go_wp2_with fail
     clear aO aP aQ aR aS aT aU aV aW aX aY aZ bg bn bC bD
     clear jc jd je
     refine Calls.mono (P:=Tryz.prog) (H2.out wr iE) ?_
     rintro e10 aM ⟨rfl,g10⟩
     have dP:=G.trans iE g10
     have cK:=G.trans hG g10
     clear hG g10
     go_wp2_with fail
     exact⟨⟨3,by omega,rfl,cK.alloc _⟩,by decide⟩
    ·skip
     have ax:=Rec.f2 (Rec.G jc.out (G.refl _))
     have aO:=ax.1
     have aP:=ax.2.1
     have aQ:=ax.2.2.1
     have aR:=ax.2.2.2
     clear ax
     have ay:=Rec.f2 (Rec.G jd.out (G.refl _))
     have aS:=ay.1
     have aT:=ay.2.1
     have aU:=ay.2.2.1
     have aV:=ay.2.2.2
     clear ay
     have ah:=Rec.f4 (Rec.G je.out (G.refl _))
     have aW:=ah.1
     have aX:=ah.2.1
     have aY:=ah.2.2.1
     have aZ:=ah.2.2.2.1
     have bg:=ah.2.2.2.2.1
     have bn:=ah.2.2.2.2.2.1
     have bC:=ah.2.2.2.2.2.2.1
     have bD:=ah.2.2.2.2.2.2.2
     clear ah
     go_wp2_with fail
     clear aO aP aQ aR aS aT aU aV aW aX aY aZ bg bn bC bD
     clear jc jd je
     refine Calls.mono (P:=Tryz.prog) (H3.out wr iE) ?_
     rintro e10 aM ⟨rfl,g10⟩
     have dP:=G.trans iE g10
     have cK:=G.trans hG g10
     clear hG g10
     go_wp2_with fail
     exact⟨⟨4,by omega,rfl,cK.alloc _⟩,by decide⟩
   ·obtain rfl:k=4:=by omega
    go_wp2_with fail
    go_ret
    exact⟨rfl,iE⟩
 ·skip
  go_enter Tryz.func4,Tryz.ntmps4
  go_wp2_with fail
  refine Calls.mono (P:=Tryz.prog) HS.out ?_
  rintro e1 w1 ⟨rfl,g1⟩
  go_wp2_with fail
  obtain⟨w2,aD,g2,hz2,R0,R1⟩:=q1B w1 [.float .f64 a,.float .f64 b] [.float .f64 c,.float .f64 d] 54 54
  rw[aD]
  clear aD
  have dJ:=G.trans g1 g2
  refine Calls.mono (P:=Tryz.prog) (iV.out w2 dJ) ?_
  rintro e3 w3 ⟨rfl,g3⟩
  have lF:=G.trans dJ g3
  have RP:Hid (Rec w3 w1.heap.size _):=Rec.G R0.out g3
  have RQ:Hid (Rec w3 (w1.heap.size+1) _):=Rec.G R1.out g3
  clear HS iV R0 R1 hz2 g1 g2 g3 dJ
  go_wp2_with fail
  refine Calls.mono (P:=Tryz.prog) (kQ.out w3 lF) ?_
  rintro e4 w4 ⟨rfl,g4⟩
  have jN:=G.trans lF g4
  have yR:Hid (Rec w4 w1.heap.size _):=Rec.G RP.out g4
  have yS:Hid (Rec w4 (w1.heap.size+1) _):=Rec.G RQ.out g4
  clear kQ RP RQ lF g4
  go_wp2_with fail
  have lJ:=Rec.new4 w4 (.func (.func 25) #[] #[]) (.func (.func 26) #[] #[]) (.func (.func 27) #[] #[]) (.func (.func 28) #[] #[]) 56
  have ga:=(G.refl w4).alloc (.cells #[.func (.func 25) #[] #[],.func (.func 26) #[] #[],.func (.func 27) #[] #[],.func (.func 28) #[] #[]] 56)
  have sj:=G.trans jN ga
  generalize w4.alloc (.cells #[.func (.func 25) #[] #[],.func (.func 26) #[] #[],.func (.func 27) #[] #[],.func (.func 28) #[] #[]] 56)=wL at *
  generalize w4.heap.size=row at *
  have RW:Hid (Rec wL row _):=lJ
  have zH:Hid (Rec wL w1.heap.size _):=Rec.G yR.out ga
  have zI:Hid (Rec wL (w1.heap.size+1) _):=Rec.G yS.out ga
  clear lJ ga yR yS jN
  go_loopw [41] (fun vk wr=>∃ k:Nat,k≤4∧vk= .int .i64 k∧G wL wr) (fun vk _=>4-(intOf vk).toNat)
  case atStart=>exact⟨0,Nat.zero_le _,rfl,G.refl _⟩
  case round=>
   obtain⟨k,hk,rfl,hG⟩:=hrel
   have jc:Hid (Rec wr w1.heap.size _):=Rec.G zH.out hG
   have jd:Hid (Rec wr (w1.heap.size+1) _):=Rec.G zI.out hG
   have je:Hid (Rec wr row _):=Rec.G RW.out hG
   have iE:=G.trans sj hG
   by_cases hkn:k<4
   ·have hks:k=0∨k=1∨k=2∨k=3:=by omega
    rcases hks with rfl|rfl|rfl|rfl
    ·skip
     have ax:=Rec.f2 (Rec.G jc.out (G.refl _))
     have aO:=ax.1
     have aP:=ax.2.1
     have aQ:=ax.2.2.1
     have aR:=ax.2.2.2
     clear ax
     have ay:=Rec.f2 (Rec.G jd.out (G.refl _))
     have aS:=ay.1
     have aT:=ay.2.1
     have aU:=ay.2.2.1
     have aV:=ay.2.2.2
     clear ay
     have ah:=Rec.f4 (Rec.G je.out (G.refl _))
     have aW:=ah.1
     have aX:=ah.2.1
     have aY:=ah.2.2.1
     have aZ:=ah.2.2.2.1
     have bg:=ah.2.2.2.2.1
     have bn:=ah.2.2.2.2.2.1
     have bC:=ah.2.2.2.2.2.2.1
     have bD:=ah.2.2.2.2.2.2.2
     clear ah
     go_wp2_with fail
     clear aO aP aQ aR aS aT aU aV aW aX aY aZ bg bn bC bD
     clear jc jd je
     refine Calls.mono (P:=Tryz.prog) (H0.out wr iE) ?_
     rintro e10 aM ⟨rfl,g10⟩
     have dP:=G.trans iE g10
     have cK:=G.trans hG g10
     clear hG g10
     go_wp2_with fail
     exact⟨⟨1,by omega,rfl,cK.alloc _⟩,by decide⟩
    ·skip
     have ax:=Rec.f2 (Rec.G jc.out (G.refl _))
     have aO:=ax.1
     have aP:=ax.2.1
     have aQ:=ax.2.2.1
     have aR:=ax.2.2.2
     clear ax
     have ay:=Rec.f2 (Rec.G jd.out (G.refl _))
     have aS:=ay.1
     have aT:=ay.2.1
     have aU:=ay.2.2.1
     have aV:=ay.2.2.2
     clear ay
     have ah:=Rec.f4 (Rec.G je.out (G.refl _))
     have aW:=ah.1
     have aX:=ah.2.1
     have aY:=ah.2.2.1
     have aZ:=ah.2.2.2.1
     have bg:=ah.2.2.2.2.1
     have bn:=ah.2.2.2.2.2.1
     have bC:=ah.2.2.2.2.2.2.1
     have bD:=ah.2.2.2.2.2.2.2
     clear ah
     go_wp2_with fail
     clear aO aP aQ aR aS aT aU aV aW aX aY aZ bg bn bC bD
     clear jc jd je
     refine Calls.mono (P:=Tryz.prog) (H1.out wr iE) ?_
     rintro e10 aM ⟨rfl,g10⟩
     have dP:=G.trans iE g10
     have cK:=G.trans hG g10
     clear hG g10
     go_wp2_with fail
     exact⟨⟨2,by omega,rfl,cK.alloc _⟩,by decide⟩
    ·skip
     have ax:=Rec.f2 (Rec.G jc.out (G.refl _))
     have aO:=ax.1
     have aP:=ax.2.1
     have aQ:=ax.2.2.1
     have aR:=ax.2.2.2
     clear ax
     have ay:=Rec.f2 (Rec.G jd.out (G.refl _))
     have aS:=ay.1
     have aT:=ay.2.1
     have aU:=ay.2.2.1
     have aV:=ay.2.2.2
     clear ay
     have ah:=Rec.f4 (Rec.G je.out (G.refl _))
     have aW:=ah.1
     have aX:=ah.2.1
     have aY:=ah.2.2.1
     have aZ:=ah.2.2.2.1
     have bg:=ah.2.2.2.2.1
     have bn:=ah.2.2.2.2.2.1
     have bC:=ah.2.2.2.2.2.2.1
     have bD:=ah.2.2.2.2.2.2.2
     clear ah
     go_wp2_with fail
     clear aO aP aQ aR aS aT aU aV aW aX aY aZ bg bn bC bD
     clear jc jd je
     refine Calls.mono (P:=Tryz.prog) (H2.out wr iE) ?_
     rintro e10 aM ⟨rfl,g10⟩
     have dP:=G.trans iE g10
     have cK:=G.trans hG g10
     clear hG g10
     go_wp2_with fail
     exact⟨⟨3,by omega,rfl,cK.alloc _⟩,by decide⟩
    ·skip
     have ax:=Rec.f2 (Rec.G jc.out (G.refl _))
     have aO:=ax.1
     have aP:=ax.2.1
     have aQ:=ax.2.2.1
     have aR:=ax.2.2.2
     clear ax
     have ay:=Rec.f2 (Rec.G jd.out (G.refl _))
     have aS:=ay.1
     have aT:=ay.2.1
     have aU:=ay.2.2.1
     have aV:=ay.2.2.2
     clear ay
     have ah:=Rec.f4 (Rec.G je.out (G.refl _))
     have aW:=ah.1
     have aX:=ah.2.1
     have aY:=ah.2.2.1
     have aZ:=ah.2.2.2.1
     have bg:=ah.2.2.2.2.1
     have bn:=ah.2.2.2.2.2.1
     have bC:=ah.2.2.2.2.2.2.1
     have bD:=ah.2.2.2.2.2.2.2
     clear ah
     go_wp2_with fail
     clear aO aP aQ aR aS aT aU aV aW aX aY aZ bg bn bC bD
     clear jc jd je
     refine Calls.mono (P:=Tryz.prog) (H3.out wr iE) ?_
     rintro e10 aM ⟨rfl,g10⟩
     have dP:=G.trans iE g10
     have cK:=G.trans hG g10
     clear hG g10
     go_wp2_with fail
     exact⟨⟨4,by omega,rfl,cK.alloc _⟩,by decide⟩
   ·obtain rfl:k=4:=by omega
    go_wp2_with fail
    go_ret
    exact⟨rfl,iE⟩
end Go.Proofs.YtljkfjjchkehaaaGreatDoor.EN
namespace Go.Proofs.YtljkfjjchkehaaaGreatDoor.EN
open Go.ChangeShapes Go.WideShapes Go.ChangeAt Go.RowKit
attribute [local go_sem] q0m
theorem q3T {k:Nat} {x:Rat} {L:List Nat} {o:Bool} (h:Fr k x L o) (i:Nat):fex (L.getD i 0)<2047:=by
 by_cases hi:i<L.length
 ·refine qcf h _ ?_
  rw[List.getD_eq_getElem?_getD,List.getElem?_eq_getElem hi]
  exact List.getElem_mem hi
 ·rw[List.getD_eq_getElem?_getD,List.getElem?_eq_none (by omega)]
  decide
theorem SetG.gx {w:World} {b:Nat} {q:Rat} {e:Ending} {w':World} (h:SetRat w b q e w'):∀ {k:Nat},k<w.heap.size→k<w'.heap.size:=fun hk=>Nat.lt_of_lt_of_le hk h.2.1.size
/-- What a pair may be: of what isn't refused, or nothing. -/
theorem q2g {x:Rat} {L:List Nat} {o:Bool} (h:Fr 2 x L o):∃ (hi lo:Nat) (k:Int),pH L o 0=hi∧pH L o 1=lo∧cA o=k∧(FloatKind.f64.format.order hi hi != some .eq)=false∧(FloatKind.f64.format.order lo lo != some .eq)=false∧((o=true∧k=0)∨(o=false∧k=3∧hi=0∧lo=0)):=by
 cases o with
 |true=>exact⟨_,_,_,rfl,rfl,rfl,ne_of (q37 (q3T h 0)),ne_of (q37 (q3T h 1)),Or.inl ⟨rfl,rfl⟩⟩
 |false=>exact⟨0,0,3,rfl,rfl,rfl,ne_of (q37 (show fex 0<2047 by decide)),ne_of (q37 (show fex 0<2047 by decide)),Or.inr ⟨rfl,rfl,rfl,rfl⟩⟩
set_option maxHeartbeats 40000000 in
set_option maxRecDepth 10000 in
theorem q6U (w:World) (a b c d:Nat) (hT:Tab w) (ha:a<2^64) (hb:b<2^64) (hc:c<2^64) (hd:d<2^64) (h1:PC w a b 0) (h2:PC w c d 0) (hy:Uz (fz c+fz d)≠0):
  Calls Tryz.prog 4 #[.float .f64 a,.float .f64 b,.float .f64 c,.float .f64 d] w fun e w'=>e= .returned (.bool true)∧G w w':=by
 have HS:Hid _:=q3v w hT
 obtain⟨hfa,uA,-⟩:=h1.2.2 rfl
 obtain⟨hfc,FX,-⟩:=h2.2.2 rfl
 obtain⟨L0,o0,f0⟩:=q87 a b c d
 obtain⟨L1,o1,f1⟩:=q7q a b c d
 obtain⟨L2,o2,f2⟩:=q7y a b c d
 have Ce:=qb7 w a b c d L0 o0 hT h1 h2 f0
 have Cf:=qc7 w a b c d L1 o1 hT h1 h2 f1
 have Cg:=qcl w a b c d L2 o2 hT h1 h2 f2
 have Ch:∀ w1 p,p<w1.heap.size→RIs w1 p _→_:=fun w1 p hp hr=>q1i w1 p _ L0 o0 f0 hp (Or.inl hr)
 have Ci:∀ w1 p,p<w1.heap.size→RIs w1 p _→_:=fun w1 p hp hr=>q1i w1 p _ L1 o1 f1 hp (Or.inl hr)
 have Cj:∀ w1 p,p<w1.heap.size→RIs w1 p _→_:=fun w1 p hp hr=>q1i w1 p _ L2 o2 f2 hp (Or.inl hr)
 obtain⟨h0,l0,q0,Ck,Cm,FY,FZ,G5,G8⟩:=q2g f0
 obtain⟨h1x,l1,q1,Cn,Co,G9,Ga,Gb,r16⟩:=q2g f1
 obtain⟨h2x,l2,q2,Cq,Cr,Gc,Gd,Gf,Gg⟩:=q2g f2
 rw[Ck,Cm,FY] at Ce
 rw[Cn,Co,G9] at Cf
 rw[Cq,Cr,Gc] at Cg
 rw[Ck,Cm] at Ch
 rw[Cn,Co] at Ci
 rw[Cq,Cr] at Cj
 have H0:Hid (q1E _ w a b c d h0 l0 q0):=Ce
 have H1:Hid (q1E _ w a b c d h1x l1 q1):=Cf
 have H2:Hid (q1E _ w a b c d h2x l2 q2):=Cg
 have Cs:Hid (∀ w1 p,p<w1.heap.size→RIs w1 p _→_):=Ch
 have Ct:Hid (∀ w1 p,p<w1.heap.size→RIs w1 p _→_):=Ci
 have Cu:Hid (∀ w1 p,p<w1.heap.size→RIs w1 p _→_):=Cj
 have Gh:Hid _:=And.intro FZ G5
 have Av:Hid _:=And.intro Ga Gb
 have HE2:Hid _:=And.intro Gd Gf
 have HW0:Hid _:=G8
 have HW1:Hid _:=r16
 have HW2:Hid _:=Gg
 have vF:Hid (∀ w1,_):=fun w1=>q1Y w1 a ha hfa
 have vG:Hid (∀ w1,_):=fun w1=>q1Y w1 b hb uA
 have l6:Hid (∀ w1,_):=fun w1=>q1Y w1 c hc hfc
 have yQ:Hid (∀ w1,_):=fun w1=>q1Y w1 d hd FX
 have HX:Hid (∀ w1 z p q,z<w1.heap.size→p<w1.heap.size→q<w1.heap.size→RatIs w1 z 0 0→RIs w1 p (Uz (fz a))→RIs w1 q (Uz (fz b))→_):=fun w1 z p q k1 k2 k3 k4 k5 k6=>q3t w1 z p q 0 0 _ _ 80 (by omega) (q3D a) (q3D b) k1 k2 k3 k4 k5 k6
 have HY:Hid (∀ w1 z p q,z<w1.heap.size→p<w1.heap.size→q<w1.heap.size→RatIs w1 z 0 0→RIs w1 p (Uz (fz c))→RIs w1 q (Uz (fz d))→_):=fun w1 z p q k1 k2 k3 k4 k5 k6=>q3t w1 z p q 0 0 _ _ 80 (by omega) (q3D c) (q3D d) k1 k2 k3 k4 k5 k6
 rw[q3N] at HX HY
 have xX:Hid (∀ w1 z p q,z<w1.heap.size→p<w1.heap.size→q<w1.heap.size→RatIs w1 z 0 0→RIs w1 p (Uz (fz a+fz b))→RIs w1 q (Uz (fz c+fz d))→_):=fun w1 z p q k1 k2 k3 k4 k5 k6=>q3t w1 z p q 0 0 _ _ 80 (by omega) (q0C a b) (q0C c d) k1 k2 k3 k4 k5 k6
 have sF:Hid (∀ w1 z p q,z<w1.heap.size→p<w1.heap.size→q<w1.heap.size→RatIs w1 z 0 0→RIs w1 p (Uz (fz a+fz b))→RIs w1 q (Uz (fz c+fz d))→_):=fun w1 z p q k1 k2 k3 k4 k5 k6=>q89 w1 z p q 0 0 _ _ 80 (by omega) (q0C a b) (q0C c d) k1 k2 k3 k4 k5 k6
 have iW:Hid (∀ w1 z p q,z<w1.heap.size→p<w1.heap.size→q<w1.heap.size→RatIs w1 z 0 0→RIs w1 p (Uz (fz a+fz b))→RIs w1 q (Uz (fz c+fz d))→_):=fun w1 z p q k1 k2 k3 k4 k5 k6=>q9X w1 z p q 0 0 _ _ 80 (by omega) (q0C a b) (q0C c d) k1 k2 k3 k4 k5 k6
 have BC:Hid (∀ w1 p,RIs w1 p (Uz (fz c+fz d))→_):=fun w1 p hr=>q2a w1 p _ _ hr
 have hz:(FloatKind.f64.format.order 0 0==some .eq)=true:=by kernel_rfl
 have hz2:(FloatKind.f64.format.order 0 0 != some .eq)=false:=by kernel_rfl
 have iV:Hid (∀ w1,G w w1→_):=h1.1
 have kQ:Hid (∀ w1,G w w1→_):=h2.1
 have hy0:fz c+fz d≠0:=fun e=>hy (by rw[e];exact q2S)
 obtain⟨L3,o3,f3⟩:=qaG a b c d hy0
 have MO:=qcp w a b c d L3 o3 hT h1 h2 hy f3
 have MP:∀ w1 p,p<w1.heap.size→RIs w1 p _→_:=fun w1 p hp hr=>q1i w1 p _ L3 o3 f3 hp (Or.inl hr)
 obtain⟨h3,l3,q3,MQ,r32,P7,P8,P9,Pb⟩:=q2g f3
 rw[MQ,r32,P7] at MO
 rw[MQ,r32] at MP
 have H3:Hid (q1E _ w a b c d h3 l3 q3):=MO
 have MR:Hid (∀ w1 p,p<w1.heap.size→RIs w1 p _→_):=MP
 have FH:Hid _:=And.intro P8 P9
 have HW3:Hid _:=Pb
 have wZ:Hid (∀ w1 z p q,z<w1.heap.size→p<w1.heap.size→q<w1.heap.size→Rec w1 z [.bool false,.slice none 0 0,.bool false,.slice none 0 0]→RIs w1 p (Uz (fz a+fz b))→RIs w1 q (Uz (fz c+fz d))→_):=fun w1 z p q k1 k2 k3 k4 k5 k6=>qca w1 z p q _ _ 80 (by omega) (q0C a b) (q0C c d) hy k1 k2 k3 k4 k5 k6
 have hsg:((Uz (fz c+fz d)).num.sign==0)=false:=by
  have:(Uz (fz c+fz d)).num.sign≠0:=fun e=>hy (Rat.num_eq_zero.1 (Int.sign_eq_zero_iff_zero.1 e))
  simpa using this
 clear MO MP f3 MQ r32 P7 P8 P9 Pb hy0
 generalize (Uz (fz c+fz d)).num.sign=sg at *
 generalize Uz (fz a+fz b)/Uz (fz c+fz d)=R3 at *
 generalize Uz (fz a+fz b)*Uz (fz c+fz d)=R2 at *
 generalize Uz (fz a+fz b)-Uz (fz c+fz d)=R1 at *
 generalize Uz (fz a+fz b)+Uz (fz c+fz d)=R0 at *
 generalize Uz (fz a+fz b)=X at *
 generalize Uz (fz c+fz d)=Y at *
 clear Ce Cf Cg Ch Ci Cj f0 f1 f2 h1 h2 hT hy ha hb hc hd hfa uA hfc FX Ck Cm FY FZ G5 G8 Cn Co G9 Ga Gb r16 Cq Cr Gc Gd Gf Gg
 go_enter Tryz.func4,Tryz.ntmps4
 go_wp2_with fail
 refine Calls.mono (P:=Tryz.prog) HS.out ?_
 rintro e1 w1 ⟨rfl,g1⟩
 go_wp2_with fail
 obtain⟨w2,aD,g2,hz2,R0,R1⟩:=q1B w1 [.float .f64 a,.float .f64 b] [.float .f64 c,.float .f64 d] 54 54
 rw[aD]
 clear aD
 have dJ:=G.trans g1 g2
 refine Calls.mono (P:=Tryz.prog) (iV.out w2 dJ) ?_
 rintro e3 w3 ⟨rfl,g3⟩
 have lF:=G.trans dJ g3
 have RP:Hid (Rec w3 w1.heap.size _):=Rec.G R0.out g3
 have RQ:Hid (Rec w3 (w1.heap.size+1) _):=Rec.G R1.out g3
 clear HS iV R0 R1 hz2 g1 g2 g3 dJ
 go_wp2_with fail
 refine Calls.mono (P:=Tryz.prog) (kQ.out w3 lF) ?_
 rintro e4 w4 ⟨rfl,g4⟩
 have jN:=G.trans lF g4
 have yR:Hid (Rec w4 w1.heap.size _):=Rec.G RP.out g4
 have yS:Hid (Rec w4 (w1.heap.size+1) _):=Rec.G RQ.out g4
 clear kQ RP RQ lF g4
 go_wp2_with fail
 have lJ:=Rec.new4 w4 (.func (.func 25) #[] #[]) (.func (.func 26) #[] #[]) (.func (.func 27) #[] #[]) (.func (.func 28) #[] #[]) 56
 have ga:=(G.refl w4).alloc (.cells #[.func (.func 25) #[] #[],.func (.func 26) #[] #[],.func (.func 27) #[] #[],.func (.func 28) #[] #[]] 56)
 have sj:=G.trans jN ga
 generalize w4.alloc (.cells #[.func (.func 25) #[] #[],.func (.func 26) #[] #[],.func (.func 27) #[] #[],.func (.func 28) #[] #[]] 56)=wL at *
 generalize w4.heap.size=row at *
 have RW:Hid (Rec wL row _):=lJ
 have zH:Hid (Rec wL w1.heap.size _):=Rec.G yR.out ga
 have zI:Hid (Rec wL (w1.heap.size+1) _):=Rec.G yS.out ga
 clear lJ ga yR yS jN
 go_loopw [41] (fun vk wr=>∃ k:Nat,k≤4∧vk= .int .i64 k∧G wL wr) (fun vk _=>4-(intOf vk).toNat)
 case atStart=>exact⟨0,Nat.zero_le _,rfl,G.refl _⟩
 case round=>
  obtain⟨k,hk,rfl,hG⟩:=hrel
  have jc:Hid (Rec wr w1.heap.size _):=Rec.G zH.out hG
  have jd:Hid (Rec wr (w1.heap.size+1) _):=Rec.G zI.out hG
  have je:Hid (Rec wr row _):=Rec.G RW.out hG
  have iE:=G.trans sj hG
  by_cases hkn:k<4
  ·have hks:k=0∨k=1∨k=2∨k=3:=by omega
   rcases hks with rfl|rfl|rfl|rfl
   ·skip
    have ax:=Rec.f2 (Rec.G jc.out (G.refl _))
    have aO:=ax.1
    have aP:=ax.2.1
    have aQ:=ax.2.2.1
    have aR:=ax.2.2.2
    clear ax
    have ay:=Rec.f2 (Rec.G jd.out (G.refl _))
    have aS:=ay.1
    have aT:=ay.2.1
    have aU:=ay.2.2.1
    have aV:=ay.2.2.2
    clear ay
    have ah:=Rec.f4 (Rec.G je.out (G.refl _))
    have aW:=ah.1
    have aX:=ah.2.1
    have aY:=ah.2.2.1
    have aZ:=ah.2.2.2.1
    have bg:=ah.2.2.2.2.1
    have bn:=ah.2.2.2.2.2.1
    have bC:=ah.2.2.2.2.2.2.1
    have bD:=ah.2.2.2.2.2.2.2
    clear ah
    go_wp2_with fail
    clear aO aP aQ aR aS aT aU aV aW aX aY aZ bg bn bC bD
    clear jc jd je
    refine Calls.mono (P:=Tryz.prog) (H0.out wr iE) ?_
    rintro e10 aM ⟨rfl,g10⟩
    have dP:=G.trans iE g10
    have cK:=G.trans hG g10
    clear hG g10
    go_wp2_with fail
    have nP:Rec (aM.alloc (.cells #[.float .f64 h0,.float .f64 l0] 54)) aM.heap.size [.float .f64 h0,.float .f64 l0]:=Rec.new2 aM _ _ _
    have gP:=(G.refl aM).alloc (.cells #[.float .f64 h0,.float .f64 l0] 54)
    have hsP:(aM.alloc (.cells #[.float .f64 h0,.float .f64 l0] 54)).heap.size=aM.heap.size+1:=by simp
    generalize aM.alloc (.cells #[.float .f64 h0,.float .f64 l0] 54)=wP at *
    have nR:RatIs (wP.alloc (.cells #[.bool false,.slice none 0 0,.bool false,.slice none 0 0] 40)) wP.heap.size 0 0:=q0s wP 40
    have gR:=(G.refl wP).alloc (.cells #[.bool false,.slice none 0 0,.bool false,.slice none 0 0] 40)
    have hR:wP.heap.size<(wP.alloc (.cells #[.bool false,.slice none 0 0,.bool false,.slice none 0 0] 40)).heap.size:=by simp
    generalize wP.alloc (.cells #[.bool false,.slice none 0 0,.bool false,.slice none 0 0] 40)=wR at *
    rw[hsP] at nR hR
    have hzx:=Nat.le_of_eq hsP
    generalize aM.heap.size+1=zx at *
    generalize aM.heap.size=bp at *
    have RB:Hid (Rec wP bp _):=nP
    have NR:Hid (RatIs wR zx 0 0):=nR
    have Cv:=G.trans dP gP
    have nk:=G.trans cK gP
    clear nP nR gP hsP dP cK
    refine Calls.mono (P:=Tryz.prog) (vF.out wR) ?_
    intro e11 dm hs
    obtain⟨mV,rfl,g11,-,dX,gu⟩:=hs
    have gy:Hid (RIs dm mV _):=gu
    have gz:Hid (RatIs dm zx 0 0):=RatIs.G NR.out hR g11
    have dY:=G.lt g11 hR
    have gD:=G.trans gR g11
    clear gu NR hR g11 gR
    go_wp2_with fail
    refine Calls.mono (P:=Tryz.prog) (vG.out dm) ?_
    intro e12 jK hs
    obtain⟨rZ,rfl,g12,-,gF,gG⟩:=hs
    have dZ:=G.lt g12 dY
    have bZ:Hid _:=HX.out jK zx mV rZ dZ (G.lt g12 dX) gF (RatIs.G gz.out dY g12) (RIs.G gy.out dX g12) gG
    have gH:=G.trans gD g12
    clear gG gz gy dX gF dY g12 gD
    go_wp2_with fail
    refine Calls.mono (P:=Tryz.prog) bZ.out ?_
    intro e13 bJ hs
    obtain⟨px,rfl,gI,-,hpx,hrx⟩:=SetRat.ret gH hzx dZ hs
    have mW:Hid (RIs bJ px X):=hrx
    clear hs hrx bZ gH dZ hzx
    go_wp2_with fail
    have nR:RatIs (bJ.alloc (.cells #[.bool false,.slice none 0 0,.bool false,.slice none 0 0] 40)) bJ.heap.size 0 0:=q0s bJ 40
    have gR:=(G.refl bJ).alloc (.cells #[.bool false,.slice none 0 0,.bool false,.slice none 0 0] 40)
    have hR:bJ.heap.size<(bJ.alloc (.cells #[.bool false,.slice none 0 0,.bool false,.slice none 0 0] 40)).heap.size:=by simp
    generalize bJ.alloc (.cells #[.bool false,.slice none 0 0,.bool false,.slice none 0 0] 40)=wS at *
    have NR:Hid (RatIs wS bJ.heap.size 0 0):=nR
    clear nR
    refine Calls.mono (P:=Tryz.prog) (l6.out wS) ?_
    intro e14 jq hs
    obtain⟨mX,rfl,g14,-,ed,gJ⟩:=hs
    have gK:Hid (RIs jq mX _):=gJ
    have gL:Hid (RatIs jq bJ.heap.size 0 0):=RatIs.G NR.out hR g14
    have ek:=G.lt g14 hR
    have dH:=G.trans gR g14
    clear gJ NR hR g14 gR
    go_wp2_with fail
    refine Calls.mono (P:=Tryz.prog) (yQ.out jq) ?_
    intro e15 qg hs
    obtain⟨si,rfl,g15,-,gM,gN⟩:=hs
    have eu:=G.lt g15 ek
    have gQ:Hid _:=HY.out qg bJ.heap.size mX si eu (G.lt g15 ed) gM (RatIs.G gL.out ek g15) (RIs.G gK.out ed g15) gN
    have dI:=G.trans dH g15
    clear gN gL gK ed gM ek g15 dH
    go_wp2_with fail
    refine Calls.mono (P:=Tryz.prog) gQ.out ?_
    intro e16 w16 hs
    obtain⟨py,rfl,bH,-,hpy,kZ⟩:=SetRat.ret dI (Nat.le_refl _) eu hs
    have ll:Hid (RIs w16 py Y):=kZ
    have gT:Hid (RIs w16 px X):=RIs.G mW.out hpx bH
    have eB:=G.lt bH hpx
    have kD:=G.trans gI bH
    clear hs kZ gQ dI eu mW hpx gI bH
    go_wp2_with fail
    have nR:Rec (w16.alloc (.cells #[.bool false,.slice none 0 0,.bool false,.slice none 0 0] 40)) w16.heap.size [.bool false,.slice none 0 0,.bool false,.slice none 0 0]:=q1X w16 40
    have mY:RatIs (w16.alloc (.cells #[.bool false,.slice none 0 0,.bool false,.slice none 0 0] 40)) w16.heap.size 0 0:=q0s w16 40
    have gR:=(G.refl w16).alloc (.cells #[.bool false,.slice none 0 0,.bool false,.slice none 0 0] 40)
    have hR:w16.heap.size<(w16.alloc (.cells #[.bool false,.slice none 0 0,.bool false,.slice none 0 0] 40)).heap.size:=by simp
    generalize w16.alloc (.cells #[.bool false,.slice none 0 0,.bool false,.slice none 0 0] 40)=fw at *
    have NR:Hid (Rec fw w16.heap.size _):=nR
    have nQ:Hid (RatIs fw w16.heap.size 0 0):=mY
    have gW:Hid (RIs fw px X):=RIs.G gT.out eB gR
    have fJ:Hid (RIs fw py Y):=RIs.G ll.out hpy gR
    have gU:=G.lt gR eB
    have gV:=G.lt gR hpy
    clear nR mY gT ll eB hpy
    have iA:Hid _:=xX.out fw w16.heap.size px py hR gU gV nQ.out gW.out fJ.out
    clear NR nQ gW fJ gU gV
    refine Calls.mono (P:=Tryz.prog) iA.out ?_
    intro e18 kJ hs
    have iB:Hid (RIs kJ w16.heap.size _):=hs.2.2
    obtain⟨CS,rfl,eD,-,-,-⟩:=SetRat.ret gR (Nat.le_refl _) hR hs
    have kY:w16.heap.size<kJ.heap.size:=SetG.gx hs hR
    clear hs iA
    have iC:Hid _:=Cs.out kJ w16.heap.size kY iB.out
    have iD:=G.trans kD eD
    clear iB eD
    go_wp2_with fail
    refine Calls.mono (P:=Tryz.prog) iC.out ?_
    rintro e19 nu ⟨rfl,g19⟩
    have dw:=G.trans iD g19
    clear iC iD g19
    have e1:=Gh.out.1
    have e2:=Gh.out.2
    rcases HW0.out with ⟨ho,hq⟩|⟨ho,hq,hh,hl⟩
    ·subst ho
     subst hq
     have kN:Hid (Rec nu bp _):=Rec.G RB.out dw
     have aA:=Rec.f2 (Rec.G kN.out (G.refl _))
     have dx:=aA.1
     have dz:=aA.2.1
     have dA:=aA.2.2.1
     have dB:=aA.2.2.2
     clear aA
     go_wp2_with fail
     exact⟨⟨1,by omega,rfl,G.trans nk dw⟩,by decide⟩
    ·subst ho
     subst hq
     subst hh
     subst hl
     have kN:Hid (Rec nu bp _):=Rec.G RB.out dw
     have aA:=Rec.f2 (Rec.G kN.out (G.refl _))
     have dx:=aA.1
     have dz:=aA.2.1
     have dA:=aA.2.2.1
     have dB:=aA.2.2.2
     clear aA
     go_wp2_with fail
     exact⟨⟨1,by omega,rfl,G.trans nk dw⟩,by decide⟩
   ·skip
    have ax:=Rec.f2 (Rec.G jc.out (G.refl _))
    have aO:=ax.1
    have aP:=ax.2.1
    have aQ:=ax.2.2.1
    have aR:=ax.2.2.2
    clear ax
    have ay:=Rec.f2 (Rec.G jd.out (G.refl _))
    have aS:=ay.1
    have aT:=ay.2.1
    have aU:=ay.2.2.1
    have aV:=ay.2.2.2
    clear ay
    have ah:=Rec.f4 (Rec.G je.out (G.refl _))
    have aW:=ah.1
    have aX:=ah.2.1
    have aY:=ah.2.2.1
    have aZ:=ah.2.2.2.1
    have bg:=ah.2.2.2.2.1
    have bn:=ah.2.2.2.2.2.1
    have bC:=ah.2.2.2.2.2.2.1
    have bD:=ah.2.2.2.2.2.2.2
    clear ah
    go_wp2_with fail
    clear aO aP aQ aR aS aT aU aV aW aX aY aZ bg bn bC bD
    clear jc jd je
    refine Calls.mono (P:=Tryz.prog) (H1.out wr iE) ?_
    rintro e10 aM ⟨rfl,g10⟩
    have dP:=G.trans iE g10
    have cK:=G.trans hG g10
    clear hG g10
    go_wp2_with fail
    have nP:Rec (aM.alloc (.cells #[.float .f64 h1x,.float .f64 l1] 54)) aM.heap.size [.float .f64 h1x,.float .f64 l1]:=Rec.new2 aM _ _ _
    have gP:=(G.refl aM).alloc (.cells #[.float .f64 h1x,.float .f64 l1] 54)
    have hsP:(aM.alloc (.cells #[.float .f64 h1x,.float .f64 l1] 54)).heap.size=aM.heap.size+1:=by simp
    generalize aM.alloc (.cells #[.float .f64 h1x,.float .f64 l1] 54)=wP at *
    have nR:RatIs (wP.alloc (.cells #[.bool false,.slice none 0 0,.bool false,.slice none 0 0] 40)) wP.heap.size 0 0:=q0s wP 40
    have gR:=(G.refl wP).alloc (.cells #[.bool false,.slice none 0 0,.bool false,.slice none 0 0] 40)
    have hR:wP.heap.size<(wP.alloc (.cells #[.bool false,.slice none 0 0,.bool false,.slice none 0 0] 40)).heap.size:=by simp
    generalize wP.alloc (.cells #[.bool false,.slice none 0 0,.bool false,.slice none 0 0] 40)=wR at *
    rw[hsP] at nR hR
    have hzx:=Nat.le_of_eq hsP
    generalize aM.heap.size+1=zx at *
    generalize aM.heap.size=bp at *
    have RB:Hid (Rec wP bp _):=nP
    have NR:Hid (RatIs wR zx 0 0):=nR
    have Cv:=G.trans dP gP
    have nk:=G.trans cK gP
    clear nP nR gP hsP dP cK
    refine Calls.mono (P:=Tryz.prog) (vF.out wR) ?_
    intro e11 dm hs
    obtain⟨mV,rfl,g11,-,dX,gu⟩:=hs
    have gy:Hid (RIs dm mV _):=gu
    have gz:Hid (RatIs dm zx 0 0):=RatIs.G NR.out hR g11
    have dY:=G.lt g11 hR
    have gD:=G.trans gR g11
    clear gu NR hR g11 gR
    go_wp2_with fail
    refine Calls.mono (P:=Tryz.prog) (vG.out dm) ?_
    intro e12 jK hs
    obtain⟨rZ,rfl,g12,-,gF,gG⟩:=hs
    have dZ:=G.lt g12 dY
    have bZ:Hid _:=HX.out jK zx mV rZ dZ (G.lt g12 dX) gF (RatIs.G gz.out dY g12) (RIs.G gy.out dX g12) gG
    have gH:=G.trans gD g12
    clear gG gz gy dX gF dY g12 gD
    go_wp2_with fail
    refine Calls.mono (P:=Tryz.prog) bZ.out ?_
    intro e13 bJ hs
    obtain⟨px,rfl,gI,-,hpx,hrx⟩:=SetRat.ret gH hzx dZ hs
    have mW:Hid (RIs bJ px X):=hrx
    clear hs hrx bZ gH dZ hzx
    go_wp2_with fail
    have nR:RatIs (bJ.alloc (.cells #[.bool false,.slice none 0 0,.bool false,.slice none 0 0] 40)) bJ.heap.size 0 0:=q0s bJ 40
    have gR:=(G.refl bJ).alloc (.cells #[.bool false,.slice none 0 0,.bool false,.slice none 0 0] 40)
    have hR:bJ.heap.size<(bJ.alloc (.cells #[.bool false,.slice none 0 0,.bool false,.slice none 0 0] 40)).heap.size:=by simp
    generalize bJ.alloc (.cells #[.bool false,.slice none 0 0,.bool false,.slice none 0 0] 40)=wS at *
    have NR:Hid (RatIs wS bJ.heap.size 0 0):=nR
    clear nR
    refine Calls.mono (P:=Tryz.prog) (l6.out wS) ?_
    intro e14 jq hs
    obtain⟨mX,rfl,g14,-,ed,gJ⟩:=hs
    have gK:Hid (RIs jq mX _):=gJ
    have gL:Hid (RatIs jq bJ.heap.size 0 0):=RatIs.G NR.out hR g14
    have ek:=G.lt g14 hR
    have dH:=G.trans gR g14
    clear gJ NR hR g14 gR
    go_wp2_with fail
    refine Calls.mono (P:=Tryz.prog) (yQ.out jq) ?_
    intro e15 qg hs
    obtain⟨si,rfl,g15,-,gM,gN⟩:=hs
    have eu:=G.lt g15 ek
    have gQ:Hid _:=HY.out qg bJ.heap.size mX si eu (G.lt g15 ed) gM (RatIs.G gL.out ek g15) (RIs.G gK.out ed g15) gN
    have dI:=G.trans dH g15
    clear gN gL gK ed gM ek g15 dH
    go_wp2_with fail
    refine Calls.mono (P:=Tryz.prog) gQ.out ?_
    intro e16 w16 hs
    obtain⟨py,rfl,bH,-,hpy,kZ⟩:=SetRat.ret dI (Nat.le_refl _) eu hs
    have ll:Hid (RIs w16 py Y):=kZ
    have gT:Hid (RIs w16 px X):=RIs.G mW.out hpx bH
    have eB:=G.lt bH hpx
    have kD:=G.trans gI bH
    clear hs kZ gQ dI eu mW hpx gI bH
    go_wp2_with fail
    have nR:Rec (w16.alloc (.cells #[.bool false,.slice none 0 0,.bool false,.slice none 0 0] 40)) w16.heap.size [.bool false,.slice none 0 0,.bool false,.slice none 0 0]:=q1X w16 40
    have mY:RatIs (w16.alloc (.cells #[.bool false,.slice none 0 0,.bool false,.slice none 0 0] 40)) w16.heap.size 0 0:=q0s w16 40
    have gR:=(G.refl w16).alloc (.cells #[.bool false,.slice none 0 0,.bool false,.slice none 0 0] 40)
    have hR:w16.heap.size<(w16.alloc (.cells #[.bool false,.slice none 0 0,.bool false,.slice none 0 0] 40)).heap.size:=by simp
    generalize w16.alloc (.cells #[.bool false,.slice none 0 0,.bool false,.slice none 0 0] 40)=fw at *
    have NR:Hid (Rec fw w16.heap.size _):=nR
    have nQ:Hid (RatIs fw w16.heap.size 0 0):=mY
    have gW:Hid (RIs fw px X):=RIs.G gT.out eB gR
    have fJ:Hid (RIs fw py Y):=RIs.G ll.out hpy gR
    have gU:=G.lt gR eB
    have gV:=G.lt gR hpy
    clear nR mY gT ll eB hpy
    have iA:Hid _:=sF.out fw w16.heap.size px py hR gU gV nQ.out gW.out fJ.out
    clear NR nQ gW fJ gU gV
    refine Calls.mono (P:=Tryz.prog) iA.out ?_
    intro e18 kJ hs
    have iB:Hid (RIs kJ w16.heap.size _):=hs.2.2
    obtain⟨CS,rfl,eD,-,-,-⟩:=SetRat.ret gR (Nat.le_refl _) hR hs
    have kY:w16.heap.size<kJ.heap.size:=SetG.gx hs hR
    clear hs iA
    have iC:Hid _:=Ct.out kJ w16.heap.size kY iB.out
    have iD:=G.trans kD eD
    clear iB eD
    go_wp2_with fail
    refine Calls.mono (P:=Tryz.prog) iC.out ?_
    rintro e19 nu ⟨rfl,g19⟩
    have dw:=G.trans iD g19
    clear iC iD g19
    have e1:=Av.out.1
    have e2:=Av.out.2
    rcases HW1.out with ⟨ho,hq⟩|⟨ho,hq,hh,hl⟩
    ·subst ho
     subst hq
     have kN:Hid (Rec nu bp _):=Rec.G RB.out dw
     have aA:=Rec.f2 (Rec.G kN.out (G.refl _))
     have dx:=aA.1
     have dz:=aA.2.1
     have dA:=aA.2.2.1
     have dB:=aA.2.2.2
     clear aA
     go_wp2_with fail
     exact⟨⟨2,by omega,rfl,G.trans nk dw⟩,by decide⟩
    ·subst ho
     subst hq
     subst hh
     subst hl
     have kN:Hid (Rec nu bp _):=Rec.G RB.out dw
     have aA:=Rec.f2 (Rec.G kN.out (G.refl _))
     have dx:=aA.1
     have dz:=aA.2.1
     have dA:=aA.2.2.1
     have dB:=aA.2.2.2
     clear aA
     go_wp2_with fail
     exact⟨⟨2,by omega,rfl,G.trans nk dw⟩,by decide⟩
   ·skip
    have ax:=Rec.f2 (Rec.G jc.out (G.refl _))
    have aO:=ax.1
    have aP:=ax.2.1
    have aQ:=ax.2.2.1
    have aR:=ax.2.2.2
    clear ax
    have ay:=Rec.f2 (Rec.G jd.out (G.refl _))
    have aS:=ay.1
    have aT:=ay.2.1
    have aU:=ay.2.2.1
    have aV:=ay.2.2.2
    clear ay
    have ah:=Rec.f4 (Rec.G je.out (G.refl _))
    have aW:=ah.1
    have aX:=ah.2.1
    have aY:=ah.2.2.1
    have aZ:=ah.2.2.2.1
    have bg:=ah.2.2.2.2.1
    have bn:=ah.2.2.2.2.2.1
    have bC:=ah.2.2.2.2.2.2.1
    have bD:=ah.2.2.2.2.2.2.2
    clear ah
    go_wp2_with fail
    clear aO aP aQ aR aS aT aU aV aW aX aY aZ bg bn bC bD
    clear jc jd je
    refine Calls.mono (P:=Tryz.prog) (H2.out wr iE) ?_
    rintro e10 aM ⟨rfl,g10⟩
    have dP:=G.trans iE g10
    have cK:=G.trans hG g10
    clear hG g10
    go_wp2_with fail
    have nP:Rec (aM.alloc (.cells #[.float .f64 h2x,.float .f64 l2] 54)) aM.heap.size [.float .f64 h2x,.float .f64 l2]:=Rec.new2 aM _ _ _
    have gP:=(G.refl aM).alloc (.cells #[.float .f64 h2x,.float .f64 l2] 54)
    have hsP:(aM.alloc (.cells #[.float .f64 h2x,.float .f64 l2] 54)).heap.size=aM.heap.size+1:=by simp
    generalize aM.alloc (.cells #[.float .f64 h2x,.float .f64 l2] 54)=wP at *
    have nR:RatIs (wP.alloc (.cells #[.bool false,.slice none 0 0,.bool false,.slice none 0 0] 40)) wP.heap.size 0 0:=q0s wP 40
    have gR:=(G.refl wP).alloc (.cells #[.bool false,.slice none 0 0,.bool false,.slice none 0 0] 40)
    have hR:wP.heap.size<(wP.alloc (.cells #[.bool false,.slice none 0 0,.bool false,.slice none 0 0] 40)).heap.size:=by simp
    generalize wP.alloc (.cells #[.bool false,.slice none 0 0,.bool false,.slice none 0 0] 40)=wR at *
    rw[hsP] at nR hR
    have hzx:=Nat.le_of_eq hsP
    generalize aM.heap.size+1=zx at *
    generalize aM.heap.size=bp at *
    have RB:Hid (Rec wP bp _):=nP
    have NR:Hid (RatIs wR zx 0 0):=nR
    have Cv:=G.trans dP gP
    have nk:=G.trans cK gP
    clear nP nR gP hsP dP cK
    refine Calls.mono (P:=Tryz.prog) (vF.out wR) ?_
    intro e11 dm hs
    obtain⟨mV,rfl,g11,-,dX,gu⟩:=hs
    have gy:Hid (RIs dm mV _):=gu
    have gz:Hid (RatIs dm zx 0 0):=RatIs.G NR.out hR g11
    have dY:=G.lt g11 hR
    have gD:=G.trans gR g11
    clear gu NR hR g11 gR
    go_wp2_with fail
    refine Calls.mono (P:=Tryz.prog) (vG.out dm) ?_
    intro e12 jK hs
    obtain⟨rZ,rfl,g12,-,gF,gG⟩:=hs
    have dZ:=G.lt g12 dY
    have bZ:Hid _:=HX.out jK zx mV rZ dZ (G.lt g12 dX) gF (RatIs.G gz.out dY g12) (RIs.G gy.out dX g12) gG
    have gH:=G.trans gD g12
    clear gG gz gy dX gF dY g12 gD
    go_wp2_with fail
    refine Calls.mono (P:=Tryz.prog) bZ.out ?_
    intro e13 bJ hs
    obtain⟨px,rfl,gI,-,hpx,hrx⟩:=SetRat.ret gH hzx dZ hs
    have mW:Hid (RIs bJ px X):=hrx
    clear hs hrx bZ gH dZ hzx
    go_wp2_with fail
    have nR:RatIs (bJ.alloc (.cells #[.bool false,.slice none 0 0,.bool false,.slice none 0 0] 40)) bJ.heap.size 0 0:=q0s bJ 40
    have gR:=(G.refl bJ).alloc (.cells #[.bool false,.slice none 0 0,.bool false,.slice none 0 0] 40)
    have hR:bJ.heap.size<(bJ.alloc (.cells #[.bool false,.slice none 0 0,.bool false,.slice none 0 0] 40)).heap.size:=by simp
    generalize bJ.alloc (.cells #[.bool false,.slice none 0 0,.bool false,.slice none 0 0] 40)=wS at *
    have NR:Hid (RatIs wS bJ.heap.size 0 0):=nR
    clear nR
    refine Calls.mono (P:=Tryz.prog) (l6.out wS) ?_
    intro e14 jq hs
    obtain⟨mX,rfl,g14,-,ed,gJ⟩:=hs
    have gK:Hid (RIs jq mX _):=gJ
    have gL:Hid (RatIs jq bJ.heap.size 0 0):=RatIs.G NR.out hR g14
    have ek:=G.lt g14 hR
    have dH:=G.trans gR g14
    clear gJ NR hR g14 gR
    go_wp2_with fail
    refine Calls.mono (P:=Tryz.prog) (yQ.out jq) ?_
    intro e15 qg hs
    obtain⟨si,rfl,g15,-,gM,gN⟩:=hs
    have eu:=G.lt g15 ek
    have gQ:Hid _:=HY.out qg bJ.heap.size mX si eu (G.lt g15 ed) gM (RatIs.G gL.out ek g15) (RIs.G gK.out ed g15) gN
    have dI:=G.trans dH g15
    clear gN gL gK ed gM ek g15 dH
    go_wp2_with fail
    refine Calls.mono (P:=Tryz.prog) gQ.out ?_
    intro e16 w16 hs
    obtain⟨py,rfl,bH,-,hpy,kZ⟩:=SetRat.ret dI (Nat.le_refl _) eu hs
    have ll:Hid (RIs w16 py Y):=kZ
    have gT:Hid (RIs w16 px X):=RIs.G mW.out hpx bH
    have eB:=G.lt bH hpx
    have kD:=G.trans gI bH
    clear hs kZ gQ dI eu mW hpx gI bH
    go_wp2_with fail
    have nR:Rec (w16.alloc (.cells #[.bool false,.slice none 0 0,.bool false,.slice none 0 0] 40)) w16.heap.size [.bool false,.slice none 0 0,.bool false,.slice none 0 0]:=q1X w16 40
    have mY:RatIs (w16.alloc (.cells #[.bool false,.slice none 0 0,.bool false,.slice none 0 0] 40)) w16.heap.size 0 0:=q0s w16 40
    have gR:=(G.refl w16).alloc (.cells #[.bool false,.slice none 0 0,.bool false,.slice none 0 0] 40)
    have hR:w16.heap.size<(w16.alloc (.cells #[.bool false,.slice none 0 0,.bool false,.slice none 0 0] 40)).heap.size:=by simp
    generalize w16.alloc (.cells #[.bool false,.slice none 0 0,.bool false,.slice none 0 0] 40)=fw at *
    have NR:Hid (Rec fw w16.heap.size _):=nR
    have nQ:Hid (RatIs fw w16.heap.size 0 0):=mY
    have gW:Hid (RIs fw px X):=RIs.G gT.out eB gR
    have fJ:Hid (RIs fw py Y):=RIs.G ll.out hpy gR
    have gU:=G.lt gR eB
    have gV:=G.lt gR hpy
    clear nR mY gT ll eB hpy
    have iA:Hid _:=iW.out fw w16.heap.size px py hR gU gV nQ.out gW.out fJ.out
    clear NR nQ gW fJ gU gV
    refine Calls.mono (P:=Tryz.prog) iA.out ?_
    intro e18 kJ hs
    have iB:Hid (RIs kJ w16.heap.size _):=hs.2.2
    obtain⟨CS,rfl,eD,-,-,-⟩:=SetRat.ret gR (Nat.le_refl _) hR hs
    have kY:w16.heap.size<kJ.heap.size:=SetG.gx hs hR
    clear hs iA
    have iC:Hid _:=Cu.out kJ w16.heap.size kY iB.out
    have iD:=G.trans kD eD
    clear iB eD
    go_wp2_with fail
    refine Calls.mono (P:=Tryz.prog) iC.out ?_
    rintro e19 nu ⟨rfl,g19⟩
    have dw:=G.trans iD g19
    clear iC iD g19
    have e1:=HE2.out.1
    have e2:=HE2.out.2
    rcases HW2.out with ⟨ho,hq⟩|⟨ho,hq,hh,hl⟩
    ·subst ho
     subst hq
     have kN:Hid (Rec nu bp _):=Rec.G RB.out dw
     have aA:=Rec.f2 (Rec.G kN.out (G.refl _))
     have dx:=aA.1
     have dz:=aA.2.1
     have dA:=aA.2.2.1
     have dB:=aA.2.2.2
     clear aA
     go_wp2_with fail
     exact⟨⟨3,by omega,rfl,G.trans nk dw⟩,by decide⟩
    ·subst ho
     subst hq
     subst hh
     subst hl
     have kN:Hid (Rec nu bp _):=Rec.G RB.out dw
     have aA:=Rec.f2 (Rec.G kN.out (G.refl _))
     have dx:=aA.1
     have dz:=aA.2.1
     have dA:=aA.2.2.1
     have dB:=aA.2.2.2
     clear aA
     go_wp2_with fail
     exact⟨⟨3,by omega,rfl,G.trans nk dw⟩,by decide⟩
   ·skip
    have ax:=Rec.f2 (Rec.G jc.out (G.refl _))
    have aO:=ax.1
    have aP:=ax.2.1
    have aQ:=ax.2.2.1
    have aR:=ax.2.2.2
    clear ax
    have ay:=Rec.f2 (Rec.G jd.out (G.refl _))
    have aS:=ay.1
    have aT:=ay.2.1
    have aU:=ay.2.2.1
    have aV:=ay.2.2.2
    clear ay
    have ah:=Rec.f4 (Rec.G je.out (G.refl _))
    have aW:=ah.1
    have aX:=ah.2.1
    have aY:=ah.2.2.1
    have aZ:=ah.2.2.2.1
    have bg:=ah.2.2.2.2.1
    have bn:=ah.2.2.2.2.2.1
    have bC:=ah.2.2.2.2.2.2.1
    have bD:=ah.2.2.2.2.2.2.2
    clear ah
    go_wp2_with fail
    clear aO aP aQ aR aS aT aU aV aW aX aY aZ bg bn bC bD
    clear jc jd je
    refine Calls.mono (P:=Tryz.prog) (H3.out wr iE) ?_
    rintro e10 aM ⟨rfl,g10⟩
    have dP:=G.trans iE g10
    have cK:=G.trans hG g10
    clear hG g10
    go_wp2_with fail
    have nP:Rec (aM.alloc (.cells #[.float .f64 h3,.float .f64 l3] 54)) aM.heap.size [.float .f64 h3,.float .f64 l3]:=Rec.new2 aM _ _ _
    have gP:=(G.refl aM).alloc (.cells #[.float .f64 h3,.float .f64 l3] 54)
    have hsP:(aM.alloc (.cells #[.float .f64 h3,.float .f64 l3] 54)).heap.size=aM.heap.size+1:=by simp
    generalize aM.alloc (.cells #[.float .f64 h3,.float .f64 l3] 54)=wP at *
    have nR:RatIs (wP.alloc (.cells #[.bool false,.slice none 0 0,.bool false,.slice none 0 0] 40)) wP.heap.size 0 0:=q0s wP 40
    have gR:=(G.refl wP).alloc (.cells #[.bool false,.slice none 0 0,.bool false,.slice none 0 0] 40)
    have hR:wP.heap.size<(wP.alloc (.cells #[.bool false,.slice none 0 0,.bool false,.slice none 0 0] 40)).heap.size:=by simp
    generalize wP.alloc (.cells #[.bool false,.slice none 0 0,.bool false,.slice none 0 0] 40)=wR at *
    rw[hsP] at nR hR
    have hzx:=Nat.le_of_eq hsP
    generalize aM.heap.size+1=zx at *
    generalize aM.heap.size=bp at *
    have RB:Hid (Rec wP bp _):=nP
    have NR:Hid (RatIs wR zx 0 0):=nR
    have Cv:=G.trans dP gP
    have nk:=G.trans cK gP
    clear nP nR gP hsP dP cK
    refine Calls.mono (P:=Tryz.prog) (vF.out wR) ?_
    intro e11 dm hs
    obtain⟨mV,rfl,g11,-,dX,gu⟩:=hs
    have gy:Hid (RIs dm mV _):=gu
    have gz:Hid (RatIs dm zx 0 0):=RatIs.G NR.out hR g11
    have dY:=G.lt g11 hR
    have gD:=G.trans gR g11
    clear gu NR hR g11 gR
    go_wp2_with fail
    refine Calls.mono (P:=Tryz.prog) (vG.out dm) ?_
    intro e12 jK hs
    obtain⟨rZ,rfl,g12,-,gF,gG⟩:=hs
    have dZ:=G.lt g12 dY
    have bZ:Hid _:=HX.out jK zx mV rZ dZ (G.lt g12 dX) gF (RatIs.G gz.out dY g12) (RIs.G gy.out dX g12) gG
    have gH:=G.trans gD g12
    clear gG gz gy dX gF dY g12 gD
    go_wp2_with fail
    refine Calls.mono (P:=Tryz.prog) bZ.out ?_
    intro e13 bJ hs
    obtain⟨px,rfl,gI,-,hpx,hrx⟩:=SetRat.ret gH hzx dZ hs
    have mW:Hid (RIs bJ px X):=hrx
    clear hs hrx bZ gH dZ hzx
    go_wp2_with fail
    have nR:RatIs (bJ.alloc (.cells #[.bool false,.slice none 0 0,.bool false,.slice none 0 0] 40)) bJ.heap.size 0 0:=q0s bJ 40
    have gR:=(G.refl bJ).alloc (.cells #[.bool false,.slice none 0 0,.bool false,.slice none 0 0] 40)
    have hR:bJ.heap.size<(bJ.alloc (.cells #[.bool false,.slice none 0 0,.bool false,.slice none 0 0] 40)).heap.size:=by simp
    generalize bJ.alloc (.cells #[.bool false,.slice none 0 0,.bool false,.slice none 0 0] 40)=wS at *
    have NR:Hid (RatIs wS bJ.heap.size 0 0):=nR
    clear nR
    refine Calls.mono (P:=Tryz.prog) (l6.out wS) ?_
    intro e14 jq hs
    obtain⟨mX,rfl,g14,-,ed,gJ⟩:=hs
    have gK:Hid (RIs jq mX _):=gJ
    have gL:Hid (RatIs jq bJ.heap.size 0 0):=RatIs.G NR.out hR g14
    have ek:=G.lt g14 hR
    have dH:=G.trans gR g14
    clear gJ NR hR g14 gR
    go_wp2_with fail
    refine Calls.mono (P:=Tryz.prog) (yQ.out jq) ?_
    intro e15 qg hs
    obtain⟨si,rfl,g15,-,gM,gN⟩:=hs
    have eu:=G.lt g15 ek
    have gQ:Hid _:=HY.out qg bJ.heap.size mX si eu (G.lt g15 ed) gM (RatIs.G gL.out ek g15) (RIs.G gK.out ed g15) gN
    have dI:=G.trans dH g15
    clear gN gL gK ed gM ek g15 dH
    go_wp2_with fail
    refine Calls.mono (P:=Tryz.prog) gQ.out ?_
    intro e16 w16 hs
    obtain⟨py,rfl,bH,-,hpy,kZ⟩:=SetRat.ret dI (Nat.le_refl _) eu hs
    have ll:Hid (RIs w16 py Y):=kZ
    have gT:Hid (RIs w16 px X):=RIs.G mW.out hpx bH
    have eB:=G.lt bH hpx
    have kD:=G.trans gI bH
    clear hs kZ gQ dI eu mW hpx gI bH
    go_wp2_with fail
    have nR:Rec (w16.alloc (.cells #[.bool false,.slice none 0 0,.bool false,.slice none 0 0] 40)) w16.heap.size [.bool false,.slice none 0 0,.bool false,.slice none 0 0]:=q1X w16 40
    have mY:RatIs (w16.alloc (.cells #[.bool false,.slice none 0 0,.bool false,.slice none 0 0] 40)) w16.heap.size 0 0:=q0s w16 40
    have gR:=(G.refl w16).alloc (.cells #[.bool false,.slice none 0 0,.bool false,.slice none 0 0] 40)
    have hR:w16.heap.size<(w16.alloc (.cells #[.bool false,.slice none 0 0,.bool false,.slice none 0 0] 40)).heap.size:=by simp
    generalize w16.alloc (.cells #[.bool false,.slice none 0 0,.bool false,.slice none 0 0] 40)=fw at *
    have NR:Hid (Rec fw w16.heap.size _):=nR
    have nQ:Hid (RatIs fw w16.heap.size 0 0):=mY
    have gW:Hid (RIs fw px X):=RIs.G gT.out eB gR
    have fJ:Hid (RIs fw py Y):=RIs.G ll.out hpy gR
    have gU:=G.lt gR eB
    have gV:=G.lt gR hpy
    clear nR mY gT ll eB hpy
    have wY:Hid _:=BC.out fw py fJ.out
    refine Calls.mono (P:=Tryz.prog) wY.out ?_
    rintro e16 MS ⟨rfl,g17⟩
    have iA:Hid _:=wZ.out MS w16.heap.size px py (G.lt g17 hR) (G.lt g17 gU) (G.lt g17 gV) (Rec.G NR.out g17) (RIs.G gW.out gU g17) (RIs.G fJ.out gV g17)
    have SC:=G.trans gR g17
    have hR':=G.lt g17 hR
    clear NR nQ gW fJ gU gV wY
    go_wp2_with fail
    refine Calls.mono (P:=Tryz.prog) iA.out ?_
    intro e18 kJ hs
    have iB:Hid (RIs kJ w16.heap.size _):=hs.2.2
    obtain⟨CS,rfl,eD,-,-,-⟩:=SetRat.ret SC (Nat.le_refl _) hR' hs
    have kY:w16.heap.size<kJ.heap.size:=SetG.gx hs hR'
    clear hs iA
    have iC:Hid _:=MR.out kJ w16.heap.size kY iB.out
    have iD:=G.trans kD eD
    clear iB eD
    go_wp2_with fail
    refine Calls.mono (P:=Tryz.prog) iC.out ?_
    rintro e19 nu ⟨rfl,g19⟩
    have dw:=G.trans iD g19
    clear iC iD g19
    have e1:=FH.out.1
    have e2:=FH.out.2
    rcases HW3.out with ⟨ho,hq⟩|⟨ho,hq,hh,hl⟩
    ·subst ho
     subst hq
     have kN:Hid (Rec nu bp _):=Rec.G RB.out dw
     have aA:=Rec.f2 (Rec.G kN.out (G.refl _))
     have dx:=aA.1
     have dz:=aA.2.1
     have dA:=aA.2.2.1
     have dB:=aA.2.2.2
     clear aA
     go_wp2_with fail
     exact⟨⟨4,by omega,rfl,G.trans nk dw⟩,by decide⟩
    ·subst ho
     subst hq
     subst hh
     subst hl
     have kN:Hid (Rec nu bp _):=Rec.G RB.out dw
     have aA:=Rec.f2 (Rec.G kN.out (G.refl _))
     have dx:=aA.1
     have dz:=aA.2.1
     have dA:=aA.2.2.1
     have dB:=aA.2.2.2
     clear aA
     go_wp2_with fail
     exact⟨⟨4,by omega,rfl,G.trans nk dw⟩,by decide⟩
  ·obtain rfl:k=4:=by omega
   go_wp2_with fail
   go_ret
   exact⟨rfl,iE⟩
end Go.Proofs.YtljkfjjchkehaaaGreatDoor.EN
namespace Go.Proofs.YtljkfjjchkehaaaGreatDoor.EN
open Go.ChangeShapes Go.WideShapes Go.ChangeAt Go.RowKit
attribute [local go_sem] q0m
set_option maxHeartbeats 40000000 in
set_option maxRecDepth 10000 in
theorem q6q (w:World) (a b c d:Nat) (hT:Tab w) (ha:a<2^64) (hb:b<2^64) (hc:c<2^64) (hd:d<2^64) (h1:PC w a b 0) (h2:PC w c d 0) (hy:Uz (fz c+fz d)=0):
  Calls Tryz.prog 4 #[.float .f64 a,.float .f64 b,.float .f64 c,.float .f64 d] w fun e w'=>e= .returned (.bool true)∧G w w':=by
 have HS:Hid _:=q3v w hT
 obtain⟨hfa,uA,-⟩:=h1.2.2 rfl
 obtain⟨hfc,FX,-⟩:=h2.2.2 rfl
 obtain⟨L0,o0,f0⟩:=q87 a b c d
 obtain⟨L1,o1,f1⟩:=q7q a b c d
 obtain⟨L2,o2,f2⟩:=q7y a b c d
 have Ce:=qb7 w a b c d L0 o0 hT h1 h2 f0
 have Cf:=qc7 w a b c d L1 o1 hT h1 h2 f1
 have Cg:=qcl w a b c d L2 o2 hT h1 h2 f2
 have Ch:∀ w1 p,p<w1.heap.size→RIs w1 p _→_:=fun w1 p hp hr=>q1i w1 p _ L0 o0 f0 hp (Or.inl hr)
 have Ci:∀ w1 p,p<w1.heap.size→RIs w1 p _→_:=fun w1 p hp hr=>q1i w1 p _ L1 o1 f1 hp (Or.inl hr)
 have Cj:∀ w1 p,p<w1.heap.size→RIs w1 p _→_:=fun w1 p hp hr=>q1i w1 p _ L2 o2 f2 hp (Or.inl hr)
 obtain⟨h0,l0,q0,Ck,Cm,FY,FZ,G5,G8⟩:=q2g f0
 obtain⟨h1x,l1,q1,Cn,Co,G9,Ga,Gb,r16⟩:=q2g f1
 obtain⟨h2x,l2,q2,Cq,Cr,Gc,Gd,Gf,Gg⟩:=q2g f2
 rw[Ck,Cm,FY] at Ce
 rw[Cn,Co,G9] at Cf
 rw[Cq,Cr,Gc] at Cg
 rw[Ck,Cm] at Ch
 rw[Cn,Co] at Ci
 rw[Cq,Cr] at Cj
 have H0:Hid (q1E _ w a b c d h0 l0 q0):=Ce
 have H1:Hid (q1E _ w a b c d h1x l1 q1):=Cf
 have H2:Hid (q1E _ w a b c d h2x l2 q2):=Cg
 have Cs:Hid (∀ w1 p,p<w1.heap.size→RIs w1 p _→_):=Ch
 have Ct:Hid (∀ w1 p,p<w1.heap.size→RIs w1 p _→_):=Ci
 have Cu:Hid (∀ w1 p,p<w1.heap.size→RIs w1 p _→_):=Cj
 have Gh:Hid _:=And.intro FZ G5
 have Av:Hid _:=And.intro Ga Gb
 have HE2:Hid _:=And.intro Gd Gf
 have HW0:Hid _:=G8
 have HW1:Hid _:=r16
 have HW2:Hid _:=Gg
 have vF:Hid (∀ w1,_):=fun w1=>q1Y w1 a ha hfa
 have vG:Hid (∀ w1,_):=fun w1=>q1Y w1 b hb uA
 have l6:Hid (∀ w1,_):=fun w1=>q1Y w1 c hc hfc
 have yQ:Hid (∀ w1,_):=fun w1=>q1Y w1 d hd FX
 have HX:Hid (∀ w1 z p q,z<w1.heap.size→p<w1.heap.size→q<w1.heap.size→RatIs w1 z 0 0→RIs w1 p (Uz (fz a))→RIs w1 q (Uz (fz b))→_):=fun w1 z p q k1 k2 k3 k4 k5 k6=>q3t w1 z p q 0 0 _ _ 80 (by omega) (q3D a) (q3D b) k1 k2 k3 k4 k5 k6
 have HY:Hid (∀ w1 z p q,z<w1.heap.size→p<w1.heap.size→q<w1.heap.size→RatIs w1 z 0 0→RIs w1 p (Uz (fz c))→RIs w1 q (Uz (fz d))→_):=fun w1 z p q k1 k2 k3 k4 k5 k6=>q3t w1 z p q 0 0 _ _ 80 (by omega) (q3D c) (q3D d) k1 k2 k3 k4 k5 k6
 rw[q3N] at HX HY
 have xX:Hid (∀ w1 z p q,z<w1.heap.size→p<w1.heap.size→q<w1.heap.size→RatIs w1 z 0 0→RIs w1 p (Uz (fz a+fz b))→RIs w1 q (Uz (fz c+fz d))→_):=fun w1 z p q k1 k2 k3 k4 k5 k6=>q3t w1 z p q 0 0 _ _ 80 (by omega) (q0C a b) (q0C c d) k1 k2 k3 k4 k5 k6
 have sF:Hid (∀ w1 z p q,z<w1.heap.size→p<w1.heap.size→q<w1.heap.size→RatIs w1 z 0 0→RIs w1 p (Uz (fz a+fz b))→RIs w1 q (Uz (fz c+fz d))→_):=fun w1 z p q k1 k2 k3 k4 k5 k6=>q89 w1 z p q 0 0 _ _ 80 (by omega) (q0C a b) (q0C c d) k1 k2 k3 k4 k5 k6
 have iW:Hid (∀ w1 z p q,z<w1.heap.size→p<w1.heap.size→q<w1.heap.size→RatIs w1 z 0 0→RIs w1 p (Uz (fz a+fz b))→RIs w1 q (Uz (fz c+fz d))→_):=fun w1 z p q k1 k2 k3 k4 k5 k6=>q9X w1 z p q 0 0 _ _ 80 (by omega) (q0C a b) (q0C c d) k1 k2 k3 k4 k5 k6
 have BC:Hid (∀ w1 p,RIs w1 p (Uz (fz c+fz d))→_):=fun w1 p hr=>q2a w1 p _ _ hr
 have hz:(FloatKind.f64.format.order 0 0==some .eq)=true:=by kernel_rfl
 have hz2:(FloatKind.f64.format.order 0 0 != some .eq)=false:=by kernel_rfl
 have iV:Hid (∀ w1,G w w1→_):=h1.1
 have kQ:Hid (∀ w1,G w w1→_):=h2.1
 have H3:Hid (q1E _ w a b c d 0 0 5):=q6m w a b c d hT h1 h2 hy
 have hsg:((Uz (fz c+fz d)).num.sign==0)=true:=by
  rw[hy];rfl
 generalize (Uz (fz c+fz d)).num.sign=sg at *
 generalize Uz (fz a+fz b)*Uz (fz c+fz d)=R2 at *
 generalize Uz (fz a+fz b)-Uz (fz c+fz d)=R1 at *
 generalize Uz (fz a+fz b)+Uz (fz c+fz d)=R0 at *
 generalize Uz (fz a+fz b)=X at *
 generalize Uz (fz c+fz d)=Y at *
 clear Ce Cf Cg Ch Ci Cj f0 f1 f2 h1 h2 hT hy ha hb hc hd hfa uA hfc FX Ck Cm FY FZ G5 G8 Cn Co G9 Ga Gb r16 Cq Cr Gc Gd Gf Gg
 go_enter Tryz.func4,Tryz.ntmps4
 go_wp2_with fail
 refine Calls.mono (P:=Tryz.prog) HS.out ?_
 rintro e1 w1 ⟨rfl,g1⟩
 go_wp2_with fail
 obtain⟨w2,aD,g2,hz2,R0,R1⟩:=q1B w1 [.float .f64 a,.float .f64 b] [.float .f64 c,.float .f64 d] 54 54
 rw[aD]
 clear aD
 have dJ:=G.trans g1 g2
 refine Calls.mono (P:=Tryz.prog) (iV.out w2 dJ) ?_
 rintro e3 w3 ⟨rfl,g3⟩
 have lF:=G.trans dJ g3
 have RP:Hid (Rec w3 w1.heap.size _):=Rec.G R0.out g3
 have RQ:Hid (Rec w3 (w1.heap.size+1) _):=Rec.G R1.out g3
 clear HS iV R0 R1 hz2 g1 g2 g3 dJ
 go_wp2_with fail
 refine Calls.mono (P:=Tryz.prog) (kQ.out w3 lF) ?_
 rintro e4 w4 ⟨rfl,g4⟩
 have jN:=G.trans lF g4
 have yR:Hid (Rec w4 w1.heap.size _):=Rec.G RP.out g4
 have yS:Hid (Rec w4 (w1.heap.size+1) _):=Rec.G RQ.out g4
 clear kQ RP RQ lF g4
 go_wp2_with fail
 have lJ:=Rec.new4 w4 (.func (.func 25) #[] #[]) (.func (.func 26) #[] #[]) (.func (.func 27) #[] #[]) (.func (.func 28) #[] #[]) 56
 have ga:=(G.refl w4).alloc (.cells #[.func (.func 25) #[] #[],.func (.func 26) #[] #[],.func (.func 27) #[] #[],.func (.func 28) #[] #[]] 56)
 have sj:=G.trans jN ga
 generalize w4.alloc (.cells #[.func (.func 25) #[] #[],.func (.func 26) #[] #[],.func (.func 27) #[] #[],.func (.func 28) #[] #[]] 56)=wL at *
 generalize w4.heap.size=row at *
 have RW:Hid (Rec wL row _):=lJ
 have zH:Hid (Rec wL w1.heap.size _):=Rec.G yR.out ga
 have zI:Hid (Rec wL (w1.heap.size+1) _):=Rec.G yS.out ga
 clear lJ ga yR yS jN
 go_loopw [41] (fun vk wr=>∃ k:Nat,k≤4∧vk= .int .i64 k∧G wL wr) (fun vk _=>4-(intOf vk).toNat)
 case atStart=>exact⟨0,Nat.zero_le _,rfl,G.refl _⟩
 case round=>
  obtain⟨k,hk,rfl,hG⟩:=hrel
  have jc:Hid (Rec wr w1.heap.size _):=Rec.G zH.out hG
  have jd:Hid (Rec wr (w1.heap.size+1) _):=Rec.G zI.out hG
  have je:Hid (Rec wr row _):=Rec.G RW.out hG
  have iE:=G.trans sj hG
  by_cases hkn:k<4
  ·have hks:k=0∨k=1∨k=2∨k=3:=by omega
   rcases hks with rfl|rfl|rfl|rfl
   ·skip
    have ax:=Rec.f2 (Rec.G jc.out (G.refl _))
    have aO:=ax.1
    have aP:=ax.2.1
    have aQ:=ax.2.2.1
    have aR:=ax.2.2.2
    clear ax
    have ay:=Rec.f2 (Rec.G jd.out (G.refl _))
    have aS:=ay.1
    have aT:=ay.2.1
    have aU:=ay.2.2.1
    have aV:=ay.2.2.2
    clear ay
    have ah:=Rec.f4 (Rec.G je.out (G.refl _))
    have aW:=ah.1
    have aX:=ah.2.1
    have aY:=ah.2.2.1
    have aZ:=ah.2.2.2.1
    have bg:=ah.2.2.2.2.1
    have bn:=ah.2.2.2.2.2.1
    have bC:=ah.2.2.2.2.2.2.1
    have bD:=ah.2.2.2.2.2.2.2
    clear ah
    go_wp2_with fail
    clear aO aP aQ aR aS aT aU aV aW aX aY aZ bg bn bC bD
    clear jc jd je
    refine Calls.mono (P:=Tryz.prog) (H0.out wr iE) ?_
    rintro e10 aM ⟨rfl,g10⟩
    have dP:=G.trans iE g10
    have cK:=G.trans hG g10
    clear hG g10
    go_wp2_with fail
    have nP:Rec (aM.alloc (.cells #[.float .f64 h0,.float .f64 l0] 54)) aM.heap.size [.float .f64 h0,.float .f64 l0]:=Rec.new2 aM _ _ _
    have gP:=(G.refl aM).alloc (.cells #[.float .f64 h0,.float .f64 l0] 54)
    have hsP:(aM.alloc (.cells #[.float .f64 h0,.float .f64 l0] 54)).heap.size=aM.heap.size+1:=by simp
    generalize aM.alloc (.cells #[.float .f64 h0,.float .f64 l0] 54)=wP at *
    have nR:RatIs (wP.alloc (.cells #[.bool false,.slice none 0 0,.bool false,.slice none 0 0] 40)) wP.heap.size 0 0:=q0s wP 40
    have gR:=(G.refl wP).alloc (.cells #[.bool false,.slice none 0 0,.bool false,.slice none 0 0] 40)
    have hR:wP.heap.size<(wP.alloc (.cells #[.bool false,.slice none 0 0,.bool false,.slice none 0 0] 40)).heap.size:=by simp
    generalize wP.alloc (.cells #[.bool false,.slice none 0 0,.bool false,.slice none 0 0] 40)=wR at *
    rw[hsP] at nR hR
    have hzx:=Nat.le_of_eq hsP
    generalize aM.heap.size+1=zx at *
    generalize aM.heap.size=bp at *
    have RB:Hid (Rec wP bp _):=nP
    have NR:Hid (RatIs wR zx 0 0):=nR
    have Cv:=G.trans dP gP
    have nk:=G.trans cK gP
    clear nP nR gP hsP dP cK
    refine Calls.mono (P:=Tryz.prog) (vF.out wR) ?_
    intro e11 dm hs
    obtain⟨mV,rfl,g11,-,dX,gu⟩:=hs
    have gy:Hid (RIs dm mV _):=gu
    have gz:Hid (RatIs dm zx 0 0):=RatIs.G NR.out hR g11
    have dY:=G.lt g11 hR
    have gD:=G.trans gR g11
    clear gu NR hR g11 gR
    go_wp2_with fail
    refine Calls.mono (P:=Tryz.prog) (vG.out dm) ?_
    intro e12 jK hs
    obtain⟨rZ,rfl,g12,-,gF,gG⟩:=hs
    have dZ:=G.lt g12 dY
    have bZ:Hid _:=HX.out jK zx mV rZ dZ (G.lt g12 dX) gF (RatIs.G gz.out dY g12) (RIs.G gy.out dX g12) gG
    have gH:=G.trans gD g12
    clear gG gz gy dX gF dY g12 gD
    go_wp2_with fail
    refine Calls.mono (P:=Tryz.prog) bZ.out ?_
    intro e13 bJ hs
    obtain⟨px,rfl,gI,-,hpx,hrx⟩:=SetRat.ret gH hzx dZ hs
    have mW:Hid (RIs bJ px X):=hrx
    clear hs hrx bZ gH dZ hzx
    go_wp2_with fail
    have nR:RatIs (bJ.alloc (.cells #[.bool false,.slice none 0 0,.bool false,.slice none 0 0] 40)) bJ.heap.size 0 0:=q0s bJ 40
    have gR:=(G.refl bJ).alloc (.cells #[.bool false,.slice none 0 0,.bool false,.slice none 0 0] 40)
    have hR:bJ.heap.size<(bJ.alloc (.cells #[.bool false,.slice none 0 0,.bool false,.slice none 0 0] 40)).heap.size:=by simp
    generalize bJ.alloc (.cells #[.bool false,.slice none 0 0,.bool false,.slice none 0 0] 40)=wS at *
    have NR:Hid (RatIs wS bJ.heap.size 0 0):=nR
    clear nR
    refine Calls.mono (P:=Tryz.prog) (l6.out wS) ?_
    intro e14 jq hs
    obtain⟨mX,rfl,g14,-,ed,gJ⟩:=hs
    have gK:Hid (RIs jq mX _):=gJ
    have gL:Hid (RatIs jq bJ.heap.size 0 0):=RatIs.G NR.out hR g14
    have ek:=G.lt g14 hR
    have dH:=G.trans gR g14
    clear gJ NR hR g14 gR
    go_wp2_with fail
    refine Calls.mono (P:=Tryz.prog) (yQ.out jq) ?_
    intro e15 qg hs
    obtain⟨si,rfl,g15,-,gM,gN⟩:=hs
    have eu:=G.lt g15 ek
    have gQ:Hid _:=HY.out qg bJ.heap.size mX si eu (G.lt g15 ed) gM (RatIs.G gL.out ek g15) (RIs.G gK.out ed g15) gN
    have dI:=G.trans dH g15
    clear gN gL gK ed gM ek g15 dH
    go_wp2_with fail
    refine Calls.mono (P:=Tryz.prog) gQ.out ?_
    intro e16 w16 hs
    obtain⟨py,rfl,bH,-,hpy,kZ⟩:=SetRat.ret dI (Nat.le_refl _) eu hs
    have ll:Hid (RIs w16 py Y):=kZ
    have gT:Hid (RIs w16 px X):=RIs.G mW.out hpx bH
    have eB:=G.lt bH hpx
    have kD:=G.trans gI bH
    clear hs kZ gQ dI eu mW hpx gI bH
    go_wp2_with fail
    have nR:Rec (w16.alloc (.cells #[.bool false,.slice none 0 0,.bool false,.slice none 0 0] 40)) w16.heap.size [.bool false,.slice none 0 0,.bool false,.slice none 0 0]:=q1X w16 40
    have mY:RatIs (w16.alloc (.cells #[.bool false,.slice none 0 0,.bool false,.slice none 0 0] 40)) w16.heap.size 0 0:=q0s w16 40
    have gR:=(G.refl w16).alloc (.cells #[.bool false,.slice none 0 0,.bool false,.slice none 0 0] 40)
    have hR:w16.heap.size<(w16.alloc (.cells #[.bool false,.slice none 0 0,.bool false,.slice none 0 0] 40)).heap.size:=by simp
    generalize w16.alloc (.cells #[.bool false,.slice none 0 0,.bool false,.slice none 0 0] 40)=fw at *
    have NR:Hid (Rec fw w16.heap.size _):=nR
    have nQ:Hid (RatIs fw w16.heap.size 0 0):=mY
    have gW:Hid (RIs fw px X):=RIs.G gT.out eB gR
    have fJ:Hid (RIs fw py Y):=RIs.G ll.out hpy gR
    have gU:=G.lt gR eB
    have gV:=G.lt gR hpy
    clear nR mY gT ll eB hpy
    have iA:Hid _:=xX.out fw w16.heap.size px py hR gU gV nQ.out gW.out fJ.out
    clear NR nQ gW fJ gU gV
    refine Calls.mono (P:=Tryz.prog) iA.out ?_
    intro e18 kJ hs
    have iB:Hid (RIs kJ w16.heap.size _):=hs.2.2
    obtain⟨CS,rfl,eD,-,-,-⟩:=SetRat.ret gR (Nat.le_refl _) hR hs
    have kY:w16.heap.size<kJ.heap.size:=SetG.gx hs hR
    clear hs iA
    have iC:Hid _:=Cs.out kJ w16.heap.size kY iB.out
    have iD:=G.trans kD eD
    clear iB eD
    go_wp2_with fail
    refine Calls.mono (P:=Tryz.prog) iC.out ?_
    rintro e19 nu ⟨rfl,g19⟩
    have dw:=G.trans iD g19
    clear iC iD g19
    have e1:=Gh.out.1
    have e2:=Gh.out.2
    rcases HW0.out with ⟨ho,hq⟩|⟨ho,hq,hh,hl⟩
    ·subst ho
     subst hq
     have kN:Hid (Rec nu bp _):=Rec.G RB.out dw
     have aA:=Rec.f2 (Rec.G kN.out (G.refl _))
     have dx:=aA.1
     have dz:=aA.2.1
     have dA:=aA.2.2.1
     have dB:=aA.2.2.2
     clear aA
     go_wp2_with fail
     exact⟨⟨1,by omega,rfl,G.trans nk dw⟩,by decide⟩
    ·subst ho
     subst hq
     subst hh
     subst hl
     have kN:Hid (Rec nu bp _):=Rec.G RB.out dw
     have aA:=Rec.f2 (Rec.G kN.out (G.refl _))
     have dx:=aA.1
     have dz:=aA.2.1
     have dA:=aA.2.2.1
     have dB:=aA.2.2.2
     clear aA
     go_wp2_with fail
     exact⟨⟨1,by omega,rfl,G.trans nk dw⟩,by decide⟩
   ·skip
    have ax:=Rec.f2 (Rec.G jc.out (G.refl _))
    have aO:=ax.1
    have aP:=ax.2.1
    have aQ:=ax.2.2.1
    have aR:=ax.2.2.2
    clear ax
    have ay:=Rec.f2 (Rec.G jd.out (G.refl _))
    have aS:=ay.1
    have aT:=ay.2.1
    have aU:=ay.2.2.1
    have aV:=ay.2.2.2
    clear ay
    have ah:=Rec.f4 (Rec.G je.out (G.refl _))
    have aW:=ah.1
    have aX:=ah.2.1
    have aY:=ah.2.2.1
    have aZ:=ah.2.2.2.1
    have bg:=ah.2.2.2.2.1
    have bn:=ah.2.2.2.2.2.1
    have bC:=ah.2.2.2.2.2.2.1
    have bD:=ah.2.2.2.2.2.2.2
    clear ah
    go_wp2_with fail
    clear aO aP aQ aR aS aT aU aV aW aX aY aZ bg bn bC bD
    clear jc jd je
    refine Calls.mono (P:=Tryz.prog) (H1.out wr iE) ?_
    rintro e10 aM ⟨rfl,g10⟩
    have dP:=G.trans iE g10
    have cK:=G.trans hG g10
    clear hG g10
    go_wp2_with fail
    have nP:Rec (aM.alloc (.cells #[.float .f64 h1x,.float .f64 l1] 54)) aM.heap.size [.float .f64 h1x,.float .f64 l1]:=Rec.new2 aM _ _ _
    have gP:=(G.refl aM).alloc (.cells #[.float .f64 h1x,.float .f64 l1] 54)
    have hsP:(aM.alloc (.cells #[.float .f64 h1x,.float .f64 l1] 54)).heap.size=aM.heap.size+1:=by simp
    generalize aM.alloc (.cells #[.float .f64 h1x,.float .f64 l1] 54)=wP at *
    have nR:RatIs (wP.alloc (.cells #[.bool false,.slice none 0 0,.bool false,.slice none 0 0] 40)) wP.heap.size 0 0:=q0s wP 40
    have gR:=(G.refl wP).alloc (.cells #[.bool false,.slice none 0 0,.bool false,.slice none 0 0] 40)
    have hR:wP.heap.size<(wP.alloc (.cells #[.bool false,.slice none 0 0,.bool false,.slice none 0 0] 40)).heap.size:=by simp
    generalize wP.alloc (.cells #[.bool false,.slice none 0 0,.bool false,.slice none 0 0] 40)=wR at *
    rw[hsP] at nR hR
    have hzx:=Nat.le_of_eq hsP
    generalize aM.heap.size+1=zx at *
    generalize aM.heap.size=bp at *
    have RB:Hid (Rec wP bp _):=nP
    have NR:Hid (RatIs wR zx 0 0):=nR
    have Cv:=G.trans dP gP
    have nk:=G.trans cK gP
    clear nP nR gP hsP dP cK
    refine Calls.mono (P:=Tryz.prog) (vF.out wR) ?_
    intro e11 dm hs
    obtain⟨mV,rfl,g11,-,dX,gu⟩:=hs
    have gy:Hid (RIs dm mV _):=gu
    have gz:Hid (RatIs dm zx 0 0):=RatIs.G NR.out hR g11
    have dY:=G.lt g11 hR
    have gD:=G.trans gR g11
    clear gu NR hR g11 gR
    go_wp2_with fail
    refine Calls.mono (P:=Tryz.prog) (vG.out dm) ?_
    intro e12 jK hs
    obtain⟨rZ,rfl,g12,-,gF,gG⟩:=hs
    have dZ:=G.lt g12 dY
    have bZ:Hid _:=HX.out jK zx mV rZ dZ (G.lt g12 dX) gF (RatIs.G gz.out dY g12) (RIs.G gy.out dX g12) gG
    have gH:=G.trans gD g12
    clear gG gz gy dX gF dY g12 gD
    go_wp2_with fail
    refine Calls.mono (P:=Tryz.prog) bZ.out ?_
    intro e13 bJ hs
    obtain⟨px,rfl,gI,-,hpx,hrx⟩:=SetRat.ret gH hzx dZ hs
    have mW:Hid (RIs bJ px X):=hrx
    clear hs hrx bZ gH dZ hzx
    go_wp2_with fail
    have nR:RatIs (bJ.alloc (.cells #[.bool false,.slice none 0 0,.bool false,.slice none 0 0] 40)) bJ.heap.size 0 0:=q0s bJ 40
    have gR:=(G.refl bJ).alloc (.cells #[.bool false,.slice none 0 0,.bool false,.slice none 0 0] 40)
    have hR:bJ.heap.size<(bJ.alloc (.cells #[.bool false,.slice none 0 0,.bool false,.slice none 0 0] 40)).heap.size:=by simp
    generalize bJ.alloc (.cells #[.bool false,.slice none 0 0,.bool false,.slice none 0 0] 40)=wS at *
    have NR:Hid (RatIs wS bJ.heap.size 0 0):=nR
    clear nR
    refine Calls.mono (P:=Tryz.prog) (l6.out wS) ?_
    intro e14 jq hs
    obtain⟨mX,rfl,g14,-,ed,gJ⟩:=hs
    have gK:Hid (RIs jq mX _):=gJ
    have gL:Hid (RatIs jq bJ.heap.size 0 0):=RatIs.G NR.out hR g14
    have ek:=G.lt g14 hR
    have dH:=G.trans gR g14
    clear gJ NR hR g14 gR
    go_wp2_with fail
    refine Calls.mono (P:=Tryz.prog) (yQ.out jq) ?_
    intro e15 qg hs
    obtain⟨si,rfl,g15,-,gM,gN⟩:=hs
    have eu:=G.lt g15 ek
    have gQ:Hid _:=HY.out qg bJ.heap.size mX si eu (G.lt g15 ed) gM (RatIs.G gL.out ek g15) (RIs.G gK.out ed g15) gN
    have dI:=G.trans dH g15
    clear gN gL gK ed gM ek g15 dH
    go_wp2_with fail
    refine Calls.mono (P:=Tryz.prog) gQ.out ?_
    intro e16 w16 hs
    obtain⟨py,rfl,bH,-,hpy,kZ⟩:=SetRat.ret dI (Nat.le_refl _) eu hs
    have ll:Hid (RIs w16 py Y):=kZ
    have gT:Hid (RIs w16 px X):=RIs.G mW.out hpx bH
    have eB:=G.lt bH hpx
    have kD:=G.trans gI bH
    clear hs kZ gQ dI eu mW hpx gI bH
    go_wp2_with fail
    have nR:Rec (w16.alloc (.cells #[.bool false,.slice none 0 0,.bool false,.slice none 0 0] 40)) w16.heap.size [.bool false,.slice none 0 0,.bool false,.slice none 0 0]:=q1X w16 40
    have mY:RatIs (w16.alloc (.cells #[.bool false,.slice none 0 0,.bool false,.slice none 0 0] 40)) w16.heap.size 0 0:=q0s w16 40
    have gR:=(G.refl w16).alloc (.cells #[.bool false,.slice none 0 0,.bool false,.slice none 0 0] 40)
    have hR:w16.heap.size<(w16.alloc (.cells #[.bool false,.slice none 0 0,.bool false,.slice none 0 0] 40)).heap.size:=by simp
    generalize w16.alloc (.cells #[.bool false,.slice none 0 0,.bool false,.slice none 0 0] 40)=fw at *
    have NR:Hid (Rec fw w16.heap.size _):=nR
    have nQ:Hid (RatIs fw w16.heap.size 0 0):=mY
    have gW:Hid (RIs fw px X):=RIs.G gT.out eB gR
    have fJ:Hid (RIs fw py Y):=RIs.G ll.out hpy gR
    have gU:=G.lt gR eB
    have gV:=G.lt gR hpy
    clear nR mY gT ll eB hpy
    have iA:Hid _:=sF.out fw w16.heap.size px py hR gU gV nQ.out gW.out fJ.out
    clear NR nQ gW fJ gU gV
    refine Calls.mono (P:=Tryz.prog) iA.out ?_
    intro e18 kJ hs
    have iB:Hid (RIs kJ w16.heap.size _):=hs.2.2
    obtain⟨CS,rfl,eD,-,-,-⟩:=SetRat.ret gR (Nat.le_refl _) hR hs
    have kY:w16.heap.size<kJ.heap.size:=SetG.gx hs hR
    clear hs iA
    have iC:Hid _:=Ct.out kJ w16.heap.size kY iB.out
    have iD:=G.trans kD eD
    clear iB eD
    go_wp2_with fail
    refine Calls.mono (P:=Tryz.prog) iC.out ?_
    rintro e19 nu ⟨rfl,g19⟩
    have dw:=G.trans iD g19
    clear iC iD g19
    have e1:=Av.out.1
    have e2:=Av.out.2
    rcases HW1.out with ⟨ho,hq⟩|⟨ho,hq,hh,hl⟩
    ·subst ho
     subst hq
     have kN:Hid (Rec nu bp _):=Rec.G RB.out dw
     have aA:=Rec.f2 (Rec.G kN.out (G.refl _))
     have dx:=aA.1
     have dz:=aA.2.1
     have dA:=aA.2.2.1
     have dB:=aA.2.2.2
     clear aA
     go_wp2_with fail
     exact⟨⟨2,by omega,rfl,G.trans nk dw⟩,by decide⟩
    ·subst ho
     subst hq
     subst hh
     subst hl
     have kN:Hid (Rec nu bp _):=Rec.G RB.out dw
     have aA:=Rec.f2 (Rec.G kN.out (G.refl _))
     have dx:=aA.1
     have dz:=aA.2.1
     have dA:=aA.2.2.1
     have dB:=aA.2.2.2
     clear aA
     go_wp2_with fail
     exact⟨⟨2,by omega,rfl,G.trans nk dw⟩,by decide⟩
   ·skip
    have ax:=Rec.f2 (Rec.G jc.out (G.refl _))
    have aO:=ax.1
    have aP:=ax.2.1
    have aQ:=ax.2.2.1
    have aR:=ax.2.2.2
    clear ax
    have ay:=Rec.f2 (Rec.G jd.out (G.refl _))
    have aS:=ay.1
    have aT:=ay.2.1
    have aU:=ay.2.2.1
    have aV:=ay.2.2.2
    clear ay
    have ah:=Rec.f4 (Rec.G je.out (G.refl _))
    have aW:=ah.1
    have aX:=ah.2.1
    have aY:=ah.2.2.1
    have aZ:=ah.2.2.2.1
    have bg:=ah.2.2.2.2.1
    have bn:=ah.2.2.2.2.2.1
    have bC:=ah.2.2.2.2.2.2.1
    have bD:=ah.2.2.2.2.2.2.2
    clear ah
    go_wp2_with fail
    clear aO aP aQ aR aS aT aU aV aW aX aY aZ bg bn bC bD
    clear jc jd je
    refine Calls.mono (P:=Tryz.prog) (H2.out wr iE) ?_
    rintro e10 aM ⟨rfl,g10⟩
    have dP:=G.trans iE g10
    have cK:=G.trans hG g10
    clear hG g10
    go_wp2_with fail
    have nP:Rec (aM.alloc (.cells #[.float .f64 h2x,.float .f64 l2] 54)) aM.heap.size [.float .f64 h2x,.float .f64 l2]:=Rec.new2 aM _ _ _
    have gP:=(G.refl aM).alloc (.cells #[.float .f64 h2x,.float .f64 l2] 54)
    have hsP:(aM.alloc (.cells #[.float .f64 h2x,.float .f64 l2] 54)).heap.size=aM.heap.size+1:=by simp
    generalize aM.alloc (.cells #[.float .f64 h2x,.float .f64 l2] 54)=wP at *
    have nR:RatIs (wP.alloc (.cells #[.bool false,.slice none 0 0,.bool false,.slice none 0 0] 40)) wP.heap.size 0 0:=q0s wP 40
    have gR:=(G.refl wP).alloc (.cells #[.bool false,.slice none 0 0,.bool false,.slice none 0 0] 40)
    have hR:wP.heap.size<(wP.alloc (.cells #[.bool false,.slice none 0 0,.bool false,.slice none 0 0] 40)).heap.size:=by simp
    generalize wP.alloc (.cells #[.bool false,.slice none 0 0,.bool false,.slice none 0 0] 40)=wR at *
    rw[hsP] at nR hR
    have hzx:=Nat.le_of_eq hsP
    generalize aM.heap.size+1=zx at *
    generalize aM.heap.size=bp at *
    have RB:Hid (Rec wP bp _):=nP
    have NR:Hid (RatIs wR zx 0 0):=nR
    have Cv:=G.trans dP gP
    have nk:=G.trans cK gP
    clear nP nR gP hsP dP cK
    refine Calls.mono (P:=Tryz.prog) (vF.out wR) ?_
    intro e11 dm hs
    obtain⟨mV,rfl,g11,-,dX,gu⟩:=hs
    have gy:Hid (RIs dm mV _):=gu
    have gz:Hid (RatIs dm zx 0 0):=RatIs.G NR.out hR g11
    have dY:=G.lt g11 hR
    have gD:=G.trans gR g11
    clear gu NR hR g11 gR
    go_wp2_with fail
    refine Calls.mono (P:=Tryz.prog) (vG.out dm) ?_
    intro e12 jK hs
    obtain⟨rZ,rfl,g12,-,gF,gG⟩:=hs
    have dZ:=G.lt g12 dY
    have bZ:Hid _:=HX.out jK zx mV rZ dZ (G.lt g12 dX) gF (RatIs.G gz.out dY g12) (RIs.G gy.out dX g12) gG
    have gH:=G.trans gD g12
    clear gG gz gy dX gF dY g12 gD
    go_wp2_with fail
    refine Calls.mono (P:=Tryz.prog) bZ.out ?_
    intro e13 bJ hs
    obtain⟨px,rfl,gI,-,hpx,hrx⟩:=SetRat.ret gH hzx dZ hs
    have mW:Hid (RIs bJ px X):=hrx
    clear hs hrx bZ gH dZ hzx
    go_wp2_with fail
    have nR:RatIs (bJ.alloc (.cells #[.bool false,.slice none 0 0,.bool false,.slice none 0 0] 40)) bJ.heap.size 0 0:=q0s bJ 40
    have gR:=(G.refl bJ).alloc (.cells #[.bool false,.slice none 0 0,.bool false,.slice none 0 0] 40)
    have hR:bJ.heap.size<(bJ.alloc (.cells #[.bool false,.slice none 0 0,.bool false,.slice none 0 0] 40)).heap.size:=by simp
    generalize bJ.alloc (.cells #[.bool false,.slice none 0 0,.bool false,.slice none 0 0] 40)=wS at *
    have NR:Hid (RatIs wS bJ.heap.size 0 0):=nR
    clear nR
    refine Calls.mono (P:=Tryz.prog) (l6.out wS) ?_
    intro e14 jq hs
    obtain⟨mX,rfl,g14,-,ed,gJ⟩:=hs
    have gK:Hid (RIs jq mX _):=gJ
    have gL:Hid (RatIs jq bJ.heap.size 0 0):=RatIs.G NR.out hR g14
    have ek:=G.lt g14 hR
    have dH:=G.trans gR g14
    clear gJ NR hR g14 gR
    go_wp2_with fail
    refine Calls.mono (P:=Tryz.prog) (yQ.out jq) ?_
    intro e15 qg hs
    obtain⟨si,rfl,g15,-,gM,gN⟩:=hs
    have eu:=G.lt g15 ek
    have gQ:Hid _:=HY.out qg bJ.heap.size mX si eu (G.lt g15 ed) gM (RatIs.G gL.out ek g15) (RIs.G gK.out ed g15) gN
    have dI:=G.trans dH g15
    clear gN gL gK ed gM ek g15 dH
    go_wp2_with fail
    refine Calls.mono (P:=Tryz.prog) gQ.out ?_
    intro e16 w16 hs
    obtain⟨py,rfl,bH,-,hpy,kZ⟩:=SetRat.ret dI (Nat.le_refl _) eu hs
    have ll:Hid (RIs w16 py Y):=kZ
    have gT:Hid (RIs w16 px X):=RIs.G mW.out hpx bH
    have eB:=G.lt bH hpx
    have kD:=G.trans gI bH
    clear hs kZ gQ dI eu mW hpx gI bH
    go_wp2_with fail
    have nR:Rec (w16.alloc (.cells #[.bool false,.slice none 0 0,.bool false,.slice none 0 0] 40)) w16.heap.size [.bool false,.slice none 0 0,.bool false,.slice none 0 0]:=q1X w16 40
    have mY:RatIs (w16.alloc (.cells #[.bool false,.slice none 0 0,.bool false,.slice none 0 0] 40)) w16.heap.size 0 0:=q0s w16 40
    have gR:=(G.refl w16).alloc (.cells #[.bool false,.slice none 0 0,.bool false,.slice none 0 0] 40)
    have hR:w16.heap.size<(w16.alloc (.cells #[.bool false,.slice none 0 0,.bool false,.slice none 0 0] 40)).heap.size:=by simp
    generalize w16.alloc (.cells #[.bool false,.slice none 0 0,.bool false,.slice none 0 0] 40)=fw at *
    have NR:Hid (Rec fw w16.heap.size _):=nR
    have nQ:Hid (RatIs fw w16.heap.size 0 0):=mY
    have gW:Hid (RIs fw px X):=RIs.G gT.out eB gR
    have fJ:Hid (RIs fw py Y):=RIs.G ll.out hpy gR
    have gU:=G.lt gR eB
    have gV:=G.lt gR hpy
    clear nR mY gT ll eB hpy
    have iA:Hid _:=iW.out fw w16.heap.size px py hR gU gV nQ.out gW.out fJ.out
    clear NR nQ gW fJ gU gV
    refine Calls.mono (P:=Tryz.prog) iA.out ?_
    intro e18 kJ hs
    have iB:Hid (RIs kJ w16.heap.size _):=hs.2.2
    obtain⟨CS,rfl,eD,-,-,-⟩:=SetRat.ret gR (Nat.le_refl _) hR hs
    have kY:w16.heap.size<kJ.heap.size:=SetG.gx hs hR
    clear hs iA
    have iC:Hid _:=Cu.out kJ w16.heap.size kY iB.out
    have iD:=G.trans kD eD
    clear iB eD
    go_wp2_with fail
    refine Calls.mono (P:=Tryz.prog) iC.out ?_
    rintro e19 nu ⟨rfl,g19⟩
    have dw:=G.trans iD g19
    clear iC iD g19
    have e1:=HE2.out.1
    have e2:=HE2.out.2
    rcases HW2.out with ⟨ho,hq⟩|⟨ho,hq,hh,hl⟩
    ·subst ho
     subst hq
     have kN:Hid (Rec nu bp _):=Rec.G RB.out dw
     have aA:=Rec.f2 (Rec.G kN.out (G.refl _))
     have dx:=aA.1
     have dz:=aA.2.1
     have dA:=aA.2.2.1
     have dB:=aA.2.2.2
     clear aA
     go_wp2_with fail
     exact⟨⟨3,by omega,rfl,G.trans nk dw⟩,by decide⟩
    ·subst ho
     subst hq
     subst hh
     subst hl
     have kN:Hid (Rec nu bp _):=Rec.G RB.out dw
     have aA:=Rec.f2 (Rec.G kN.out (G.refl _))
     have dx:=aA.1
     have dz:=aA.2.1
     have dA:=aA.2.2.1
     have dB:=aA.2.2.2
     clear aA
     go_wp2_with fail
     exact⟨⟨3,by omega,rfl,G.trans nk dw⟩,by decide⟩
   ·skip
    have ax:=Rec.f2 (Rec.G jc.out (G.refl _))
    have aO:=ax.1
    have aP:=ax.2.1
    have aQ:=ax.2.2.1
    have aR:=ax.2.2.2
    clear ax
    have ay:=Rec.f2 (Rec.G jd.out (G.refl _))
    have aS:=ay.1
    have aT:=ay.2.1
    have aU:=ay.2.2.1
    have aV:=ay.2.2.2
    clear ay
    have ah:=Rec.f4 (Rec.G je.out (G.refl _))
    have aW:=ah.1
    have aX:=ah.2.1
    have aY:=ah.2.2.1
    have aZ:=ah.2.2.2.1
    have bg:=ah.2.2.2.2.1
    have bn:=ah.2.2.2.2.2.1
    have bC:=ah.2.2.2.2.2.2.1
    have bD:=ah.2.2.2.2.2.2.2
    clear ah
    go_wp2_with fail
    clear aO aP aQ aR aS aT aU aV aW aX aY aZ bg bn bC bD
    clear jc jd je
    refine Calls.mono (P:=Tryz.prog) (H3.out wr iE) ?_
    rintro e10 aM ⟨rfl,g10⟩
    have dP:=G.trans iE g10
    have cK:=G.trans hG g10
    clear hG g10
    go_wp2_with fail
    have nP:Rec (aM.alloc (.cells #[.float .f64 0,.float .f64 0] 54)) aM.heap.size [.float .f64 0,.float .f64 0]:=Rec.new2 aM _ _ _
    have gP:=(G.refl aM).alloc (.cells #[.float .f64 0,.float .f64 0] 54)
    have hsP:(aM.alloc (.cells #[.float .f64 0,.float .f64 0] 54)).heap.size=aM.heap.size+1:=by simp
    generalize aM.alloc (.cells #[.float .f64 0,.float .f64 0] 54)=wP at *
    have nR:RatIs (wP.alloc (.cells #[.bool false,.slice none 0 0,.bool false,.slice none 0 0] 40)) wP.heap.size 0 0:=q0s wP 40
    have gR:=(G.refl wP).alloc (.cells #[.bool false,.slice none 0 0,.bool false,.slice none 0 0] 40)
    have hR:wP.heap.size<(wP.alloc (.cells #[.bool false,.slice none 0 0,.bool false,.slice none 0 0] 40)).heap.size:=by simp
    generalize wP.alloc (.cells #[.bool false,.slice none 0 0,.bool false,.slice none 0 0] 40)=wR at *
    rw[hsP] at nR hR
    have hzx:=Nat.le_of_eq hsP
    generalize aM.heap.size+1=zx at *
    generalize aM.heap.size=bp at *
    have RB:Hid (Rec wP bp _):=nP
    have NR:Hid (RatIs wR zx 0 0):=nR
    have Cv:=G.trans dP gP
    have nk:=G.trans cK gP
    clear nP nR gP hsP dP cK
    refine Calls.mono (P:=Tryz.prog) (vF.out wR) ?_
    intro e11 dm hs
    obtain⟨mV,rfl,g11,-,dX,gu⟩:=hs
    have gy:Hid (RIs dm mV _):=gu
    have gz:Hid (RatIs dm zx 0 0):=RatIs.G NR.out hR g11
    have dY:=G.lt g11 hR
    have gD:=G.trans gR g11
    clear gu NR hR g11 gR
    go_wp2_with fail
    refine Calls.mono (P:=Tryz.prog) (vG.out dm) ?_
    intro e12 jK hs
    obtain⟨rZ,rfl,g12,-,gF,gG⟩:=hs
    have dZ:=G.lt g12 dY
    have bZ:Hid _:=HX.out jK zx mV rZ dZ (G.lt g12 dX) gF (RatIs.G gz.out dY g12) (RIs.G gy.out dX g12) gG
    have gH:=G.trans gD g12
    clear gG gz gy dX gF dY g12 gD
    go_wp2_with fail
    refine Calls.mono (P:=Tryz.prog) bZ.out ?_
    intro e13 bJ hs
    obtain⟨px,rfl,gI,-,hpx,hrx⟩:=SetRat.ret gH hzx dZ hs
    have mW:Hid (RIs bJ px X):=hrx
    clear hs hrx bZ gH dZ hzx
    go_wp2_with fail
    have nR:RatIs (bJ.alloc (.cells #[.bool false,.slice none 0 0,.bool false,.slice none 0 0] 40)) bJ.heap.size 0 0:=q0s bJ 40
    have gR:=(G.refl bJ).alloc (.cells #[.bool false,.slice none 0 0,.bool false,.slice none 0 0] 40)
    have hR:bJ.heap.size<(bJ.alloc (.cells #[.bool false,.slice none 0 0,.bool false,.slice none 0 0] 40)).heap.size:=by simp
    generalize bJ.alloc (.cells #[.bool false,.slice none 0 0,.bool false,.slice none 0 0] 40)=wS at *
    have NR:Hid (RatIs wS bJ.heap.size 0 0):=nR
    clear nR
    refine Calls.mono (P:=Tryz.prog) (l6.out wS) ?_
    intro e14 jq hs
    obtain⟨mX,rfl,g14,-,ed,gJ⟩:=hs
    have gK:Hid (RIs jq mX _):=gJ
    have gL:Hid (RatIs jq bJ.heap.size 0 0):=RatIs.G NR.out hR g14
    have ek:=G.lt g14 hR
    have dH:=G.trans gR g14
    clear gJ NR hR g14 gR
    go_wp2_with fail
    refine Calls.mono (P:=Tryz.prog) (yQ.out jq) ?_
    intro e15 qg hs
    obtain⟨si,rfl,g15,-,gM,gN⟩:=hs
    have eu:=G.lt g15 ek
    have gQ:Hid _:=HY.out qg bJ.heap.size mX si eu (G.lt g15 ed) gM (RatIs.G gL.out ek g15) (RIs.G gK.out ed g15) gN
    have dI:=G.trans dH g15
    clear gN gL gK ed gM ek g15 dH
    go_wp2_with fail
    refine Calls.mono (P:=Tryz.prog) gQ.out ?_
    intro e16 w16 hs
    obtain⟨py,rfl,bH,-,hpy,kZ⟩:=SetRat.ret dI (Nat.le_refl _) eu hs
    have ll:Hid (RIs w16 py Y):=kZ
    have gT:Hid (RIs w16 px X):=RIs.G mW.out hpx bH
    have eB:=G.lt bH hpx
    have kD:=G.trans gI bH
    clear hs kZ gQ dI eu mW hpx gI bH
    go_wp2_with fail
    have nR:Rec (w16.alloc (.cells #[.bool false,.slice none 0 0,.bool false,.slice none 0 0] 40)) w16.heap.size [.bool false,.slice none 0 0,.bool false,.slice none 0 0]:=q1X w16 40
    have mY:RatIs (w16.alloc (.cells #[.bool false,.slice none 0 0,.bool false,.slice none 0 0] 40)) w16.heap.size 0 0:=q0s w16 40
    have gR:=(G.refl w16).alloc (.cells #[.bool false,.slice none 0 0,.bool false,.slice none 0 0] 40)
    have hR:w16.heap.size<(w16.alloc (.cells #[.bool false,.slice none 0 0,.bool false,.slice none 0 0] 40)).heap.size:=by simp
    generalize w16.alloc (.cells #[.bool false,.slice none 0 0,.bool false,.slice none 0 0] 40)=fw at *
    have NR:Hid (Rec fw w16.heap.size _):=nR
    have nQ:Hid (RatIs fw w16.heap.size 0 0):=mY
    have gW:Hid (RIs fw px X):=RIs.G gT.out eB gR
    have fJ:Hid (RIs fw py Y):=RIs.G ll.out hpy gR
    have gU:=G.lt gR eB
    have gV:=G.lt gR hpy
    clear nR mY gT ll eB hpy
    have wY:Hid _:=BC.out fw py fJ.out
    refine Calls.mono (P:=Tryz.prog) wY.out ?_
    rintro e16 nu ⟨rfl,g17⟩
    have dw:=G.trans kD (G.trans gR g17)
    clear NR nQ gW fJ gU gV wY
    have kN:Hid (Rec nu bp _):=Rec.G RB.out dw
    have aA:=Rec.f2 (Rec.G kN.out (G.refl _))
    have dx:=aA.1
    have dz:=aA.2.1
    have dA:=aA.2.2.1
    have dB:=aA.2.2.2
    clear aA
    go_wp2_with fail
    exact⟨⟨4,by omega,rfl,G.trans nk dw⟩,by decide⟩
  ·obtain rfl:k=4:=by omega
   go_wp2_with fail
   go_ret
   exact⟨rfl,iE⟩
end Go.Proofs.YtljkfjjchkehaaaGreatDoor.EN
namespace Go.Proofs.YtljkfjjchkehaaaGreatDoor.EN
open Go.RowKit
theorem expanPairs_c (w:World) (a b c d:Nat) (hT:Tab w) (ha:a<2^64) (hb:b<2^64) (hc:c<2^64) (hd:d<2^64):
  Calls Tryz.prog 4 #[.float .f64 a,.float .f64 b,.float .f64 c,.float .f64 d] w fun e w'=>e= .returned (.bool true)∧G w w':=by
 obtain⟨k1,h1⟩:=qa0 w a b hT ha hb
 obtain⟨k2,h2⟩:=qa0 w c d hT hc hd
 by_cases e1:k1=0
 ·subst e1
  by_cases e2:k2=0
  ·subst e2
   by_cases hy:Uz (fz c+fz d)=0
   ·exact q6q w a b c d hT ha hb hc hd h1 h2 hy
   ·exact q6U w a b c d hT ha hb hc hd h1 h2 hy
  ·exact q4F w a b c d 0 k2 k2 hT h1 h2 (Or.inr ⟨rfl,e2,rfl⟩)
 ·exact q4F w a b c d k1 k2 k1 hT h1 h2 (Or.inl ⟨e1,rfl⟩)
end Go.Proofs.YtljkfjjchkehaaaGreatDoor.EN
