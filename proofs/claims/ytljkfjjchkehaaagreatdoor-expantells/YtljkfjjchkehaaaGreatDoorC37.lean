/- What is proved here: contracts of the law's helpers: Spoil, over this seat's translation.
What is proved here: what the reference says of fine lists: their lists, signs of differences, over this seat's translation. -/
import Derived.Test.YtljkfjjchkehaaaGreatDoorC36
import Derived.Laws.CopyRow
import Derived.Test.YtljkfjjchkehaaaGreatDoorC35
import Derived.Test.YtljkfjjchkehaaaGreatDoorC32
import Derived.Test.YtljkfjjchkehaaaGreatDoorC32
namespace Go.Proofs.YtljkfjjchkehaaaGreatDoor.EN
open Go.ChangeShapes Go.WideShapes Go.ChangeAt Go.RowKit
theorem q3T (w:World) (ty:TypeId) (g n:Nat) (cur:Array Value) (hg:w.heap[g]? =some (.cells cur 26 (0,0))) (hs:cur.size=n):
  ∃ w',(Builtin.clear_ #[22] ty #[.slice (some ⟨g,0,none⟩) n n]).run Tryz.prog w= .ok (.tuple #[]) w'∧(w'=w∨∃ row,w'=w.setRow g row):=by
 obtain⟨i,hi,hz,-,-⟩:=q94
 cases n with
 |zero=>
  refine⟨w,?_,Or.inl rfl⟩
  simp [Builtin.clear_,run_underlying Tryz.underlying22]
 |succ n=>
  have hone:∀ v∈(Builtin.zeroCells (Value.float .f64 0).cells (n+1)).toList,v.oneCell'=true:=by
   intro v hv
   have hz1:(Value.float .f64 0).cells=#[Value.float .f64 0]:=rfl
   rw[hz1] at hv
   simp only[Builtin.zeroCells,Array.toList_map,List.mem_map] at hv
   obtain⟨k,-,rfl⟩:=hv
   rw[show k%(#[Value.float .f64 0]:Array Value).size=0 from Nat.mod_one k]
   rfl
  have hlen:(Builtin.zeroCells (Value.float .f64 0).cells (n+1)).toList.length=n+1:=by
   rw[Array.length_toList,size_zeroCells]
   exact Nat.mul_one _
  obtain⟨row,hst⟩:∃ row,(storeCells ⟨g,0,none⟩ (Builtin.zeroCells (Value.float .f64 0).cells (n+1)).toList).run Tryz.prog w= .ok () (w.setRow g row):=
   ⟨_,run_storeCells_at Tryz.prog g 0 26 (Builtin.zeroCells (Value.float .f64 0).cells (n+1)).toList 0 cur w hg (by rw[hlen,hs];omega) hone⟩
  refine⟨w.setRow g row,?_,Or.inr ⟨row,rfl⟩⟩
  have hzv:(zeroValue 26).run Tryz.prog w= .ok (.float .f64 0) w:=by
   simp [zeroValue,typeInfo,hi,hz]
  simp [Builtin.clear_,run_underlying Tryz.underlying22,hzv,hst]
/-- What is left standing where a list is spoilt. -/
structure Spoilt (base:Nat) (v:Value) (w w':World):Prop where
 g:∀ w0:World,w0.heap.size≤base→G w0 w→G w0 w'
 oth:∀ k,v.ownBlock≠some k→w'.heap[k]? =w.heap[k]?
set_option maxRecDepth 10000 in
/-- What was answered is spoilt: nothing else is. -/
theorem q1U (w:World) (base:Nat) (v:Value) (l:List Nat) (h:FOwn w base v l):
  Calls Tryz.prog 21 #[v] w fun e w'=>e= .returned (.tuple #[])∧Spoilt base v w w':=by
 rcases h with ⟨rfl,-⟩|⟨g,cap,cur,rfl,h1,h2,h3,h4,h5,h6,h7⟩
 ·have hrun:(Builtin.clear_ #[22] 0 #[.slice none 0 0]).run Tryz.prog w= .ok (.tuple #[]) w:=by
   simp [Builtin.clear_,run_underlying Tryz.underlying22]
  go_enter Tryz.func21,Tryz.ntmps21
  go_wp2_with fail
  clear hrun
  refine bodyPost_end (v:= .tuple #[]) (by simp [results,Tryz.results21,go_sem]) rfl ?_
  exact⟨rfl,fun w0 _ hg=>hg,fun _ _=>rfl⟩
 ·obtain⟨w',hrun,hw'⟩:=q3T w 0 g cap cur h2 h5
  have HW:Hid (w'=w∨∃ row,w'=w.setRow g row):=hw'
  have HH:Hid (w.heap[g]? =some (.cells cur 26 (0,0))):=h2
  clear hw' h2 h4 h5 h6 h7
  go_enter Tryz.func21,Tryz.ntmps21
  go_wp2_with fail
  clear hrun
  refine bodyPost_end (v:= .tuple #[]) (by simp [results,Tryz.results21,go_sem]) rfl ?_
  refine⟨rfl,fun w0 h0 hg=> ?_,fun k hk=> ?_⟩
  ·rcases HW.out with rfl|⟨row,rfl⟩
   ·exact hg
   ·obtain⟨g1,g2,g3,g4,g5⟩:=hg
    refine⟨g1,g2,g3,by simpa using g4,fun k hk=> ?_⟩
    rw[setRow_other w g k _ (by omega)]
    exact g5 k hk
  ·rcases HW.out with rfl|⟨row,rfl⟩
   ·rfl
   ·exact setRow_other w g k _ (fun e=>hk (by rw[e];rfl))
end Go.Proofs.YtljkfjjchkehaaaGreatDoor.EN
namespace Go.Proofs.YtljkfjjchkehaaaGreatDoor.EN
open Go.RowKit
theorem qbq {k:Nat} {x:Rat} {L:List Nat} {o:Bool} (h:Fr k x L o):∀ b∈L,fex b<2047:=by
 induction h with
 |zero k=>exact fun _ h=>nomatch h
 |most v=>exact fun _ h=>nomatch h
 |bad k v h0 hq hb=>exact fun _ h=>nomatch h
 |step k v l o h0 hq h1 h2 h ih=>
  intro b hb
  rcases List.mem_cons.1 hb with e|e
  ·rw[e];exact h1
  ·exact ih b e
theorem q9X {k:Nat} {L:List Nat} {o:Bool} (h:Fr (k+1) 0 L o):L=[]∧o=true:=by
 generalize hx:(0:Rat)=x at h
 cases h with
 |zero k=>exact⟨rfl,rfl⟩
 |bad k v h0 hq hb=>exact absurd hx.symm h0
 |step k v l o h0 hq h1 h2 h=>exact absurd hx.symm h0
/-- What stands of a list that may be refused. -/
def lA (L:List Nat) (o:Bool):List Nat:=if o then L else []
def cA (o:Bool):Int:=if o then 0 else 3
theorem qaS {k:Nat} {x:Rat} {L:List Nat} {o:Bool} (h:Fr k x L o):∀ i,i<(lA L o).length→(FloatKind.f64.format.order ((lA L o).getD i 0) ((lA L o).getD i 0)==some .eq)=true:=by
 intro i hi
 cases o with
 |false=>exact absurd hi (Nat.not_lt_zero i)
 |true=>
  refine q8K (qbq h _ ?_)
  have hi':i<L.length:=hi
  show L.getD i 0∈L
  rw[List.getD_eq_getElem?_getD,List.getElem?_eq_getElem hi']
  exact List.getElem_mem hi'
theorem qaR {L:List Nat} {n:Nat} (o:Bool) (h:L.length≤n):(lA L o).length≤n:=by
 cases o with
 |false=>exact Nat.zero_le _
 |true=>exact h
/-- A call hands back a list in a block of its own, or nil; and a fault. -/
def RetO (w:World) (L:List Nat) (c a:Int) (e:Ending) (w':World):Prop:=∃ v:Value,e= .returned (.tuple #[v,.agg #[.int .i64 c,.int .i64 a]])∧G w w'∧FOwn w' w.heap.size v L
theorem RetListO.ret {w:World} {L:List Nat} {o:Bool} {e:Ending} {w':World} (h:RetListO w L o e w'):RetO w (lA L o) (cA o) 0 e w':=by
 obtain⟨v,c,rfl,g,⟨rfl,rfl,h⟩|⟨rfl,rfl,rfl⟩⟩:=h
 ·exact⟨v,rfl,g,h⟩
 ·exact⟨_,rfl,g,q0T _ _⟩
/-- What may be answered of a list: what is told of it whether or not it is refused. -/
theorem q4i {k n:Nat} {x:Rat} {L:List Nat} {o:Bool} (h:Fr k x L o) (hL:L.length≤n):∃ (LA:List Nat) (ga:Int),(∀ w e w',RetListO w L o e w'→RetO w LA ga 0 e w')∧(∀ i,i<LA.length→(FloatKind.f64.format.order (LA.getD i 0) (LA.getD i 0)==some .eq)=true)∧LA.length≤n∧((o=true∧LA=L∧ga=0)∨(o=false∧LA=[]∧ga=3)):=by
 refine⟨lA L o,cA o,fun w e w' h=>h.ret,qaS h,qaR o hL,?_⟩
 cases o with
 |true=>exact Or.inl ⟨rfl,rfl,rfl⟩
 |false=>exact Or.inr ⟨rfl,rfl,rfl⟩
theorem q46 (w:World) (p:Nat) (x:Rat) (L:List Nat) (o:Bool) (h:Fr 1048576 x L o) (hL:L.length≤1000) (hp:p<w.heap.size) (hx:RV w p x):
  Calls Tryz.prog 11 #[.pointer (some ⟨p,0,none⟩),.int .i64 1048576] w (q3n w L o):=by
 rcases hx with hx|⟨rfl,hx⟩
 ·exact q99 h w p (Nat.le_refl _) hL hp hx (fun b hb=>qb9 hb)
 ·obtain⟨rfl,rfl⟩:=q9X h
  exact q3h w p 1048576 0 hx
/-- What was answered first lies apart from what is answered later. -/
theorem FOwn.apart {w w':World} {base base':Nat} {v u:Value} {l m:List Nat} (h:FOwn w base v l) (h':FOwn w' base' u m) (hs:w.heap.size≤base'):∀ b,v.ownBlock=some b→u.ownBlock≠some b:=by
 intro b hb
 refine h'.own (Or.inl ?_)
 apply Nat.lt_of_not_le
 intro hk
 exact h.own (b:=b) (Or.inr (by have:w.heap.size≤b:=Nat.le_of_not_lt (fun h2=>by omega);exact this)) hb
theorem FOwn.spoilt {w w':World} {base base':Nat} {v u:Value} {m:List Nat} (h:FOwn w base u m) (hs:Spoilt base' v w w') (hb:∀ b,v.ownBlock=some b→u.ownBlock≠some b):FOwn w' base u m:=by
 cases hv:v.ownBlock with
 |some b=>exact FOwn.oth h (hb b hv) (fun k hk=>hs.oth k (fun e=>hk (by rw[hv] at e;injection e with e;exact e.symm)))
 |none=>
  cases hu:u.ownBlock with
  |none=>exact FOwn.oth h (b:=0) (by rw[hu];exact fun e=>nomatch e) (fun k _=>hs.oth k (by rw[hv];exact fun e=>nomatch e))
  |some g=>exact FOwn.oth h (b:=g+1) (by rw[hu];exact fun e=>by injection e with e;omega) (fun k _=>hs.oth k (by rw[hv];exact fun e=>nomatch e))
end Go.Proofs.YtljkfjjchkehaaaGreatDoor.EN
