/- What is proved here: a slice of points of our own as a row of the library's sorting contracts, over this seat's translation (no program). -/
import Derived.Test.YtdidnnbpdcanlaaGreatDoorC20
import Derived.Shelf.GgSortFunc.RowK
import Derived.Shelf.GgSortFunc.InsertionK
namespace Go.Proofs.YtdidnnbpdcanlaaGreatDoor.EN
open Go.ChangeShapes Go.WideShapes Go.ChangeAt Go.RowKit Go.Sort
/-- A point's cells. -/
def encP (p:Nat×Nat):List Value:=[.float .f64 p.1,.float .f64 p.2]
theorem qaW (l:List (Nat×Nat)) {t:Nat} (h:t<l.length*2):(pl l)[t]? =(encP (l.getD (t/2) (0,0)))[t%2]? :=by
 have hd:t/2<l.length:=by omega
 obtain⟨h1,h2⟩:=q7M hd
 rcases Nat.mod_two_eq_zero_or_one t with e|e
 ·rw[e,show t=t/2*2 from by omega]
  rw[Nat.mul_div_cancel _ (by omega:0<2)]
  exact h1
 ·rw[e,show t=t/2*2+1 from by omega]
  rw[show (t/2*2+1)/2=t/2 from by omega]
  exact h2
section
variable {α:Type} [Inhabited α] (f:α→Nat×Nat)
theorem q52 (d:Array α):(flatK (fun x=>encP (f x)) 2 d).toList=pl (d.toList.map f):=by
 apply List.ext_getElem?
 intro t
 by_cases h:t<d.size*2
 ·have h2:t/2<d.size:=by omega
  rw[qaW _ (by simpa using h)]
  have hg:=get_flatK (fun x=>encP (f x)) 2 d t h
  have hsz:t<(flatK (fun x=>encP (f x)) 2 d).size:=by simpa using h
  rw[Array.getElem?_toList,Array.getElem?_eq_getElem hsz,← getElem!_pos _ t hsz,hg]
  have e1:(d.toList.map f).getD (t/2) (0,0)=f d[t/2]! :=by
   rw[List.getD_eq_getElem?_getD,List.getElem?_eq_getElem (by simpa using h2),getElem!_pos d (t/2) h2]
   simp
  rw[e1]
  clear e1
  have hm:t%2<2:=Nat.mod_lt _ (by decide)
  generalize t%2=r at *
  rcases r with _|_|r
  ·rfl
  ·rfl
  ·omega
 ·rw[List.getElem?_eq_none (by simp;omega),List.getElem?_eq_none (by rw[q1L];simp;omega)]
theorem q2D {w:World} {base g n cap:Nat} {d:Array α} (h:POwn w base (.slice (some ⟨g,0,none⟩) n cap) (d.toList.map f)):HoldsK (fun x=>encP (f x)) 2 w g 0 d∧g<w.heap.size∧n=d.size∧base≤g:=by
 rcases h with ⟨e,-⟩|⟨b,cap',cur,e,h1,h2,h3,h4,h5,h6,h7⟩
 ·cases e
 ·injection e with e1 e2 e3
  injection e1 with e1
  injection e1 with e1
  subst e1;subst e3
  rw[List.length_map,Array.length_toList] at e2 h3 h6
  refine⟨fun j hj=> ?_,q1l h2,e2,h1⟩
  have hj2:j<d.size*2:=by simpa using hj
  have hjc:j<cur.size:=by omega
  show w.cell? ⟨g,0+j,none⟩=some (id (flatK (fun x=>encP (f x)) 2 d)[j]!)∧w.frozen? ⟨g,0+j,none⟩=false
  rw[Nat.zero_add]
  refine⟨?_,by simp [World.frozen?,h2]⟩
  have hF:=congrArg (fun l=>l[j]?) (q52 f d)
  rw[← h6,List.getElem?_take,if_pos hj2,Array.getElem?_toList,Array.getElem?_toList] at hF
  rw[getElem!_pos _ j hj]
  rw[Array.getElem?_eq_getElem hj,Array.getElem?_eq_getElem hjc] at hF
  have hF:=Option.some.inj hF
  show (match w.heap[g]? with|some (.cells cs _ _)=>_|_=>_)=_
  rw[h2]
  rw[id,hF]
  show cur[j]? =_
  rw[Array.getElem?_eq_getElem hjc]
theorem q49 {w:World} {base g n cap m:Nat} {d d':Array α} {os:Array Obj} (h:POwn w base (.slice (some ⟨g,0,none⟩) n cap) (d.toList.map f)) (hs:d'.size=d.size):
  POwn (sortWorldK (fun x=>encP (f x)) 2 w g 0 m d' os) base (.slice (some ⟨g,0,none⟩) n cap) (d'.toList.map f)∧OntoP base (.slice (some ⟨g,0,none⟩) n cap) w (sortWorldK (fun x=>encP (f x)) 2 w g 0 m d' os):=by
 have hold:∀ k,k<w.heap.size→k≠g→(sortWorldK (fun x=>encP (f x)) 2 w g 0 m d' os).heap[k]? =w.heap[k]? :=by
  intro k hk hne
  unfold sortWorldK putRowK putRow mapBlock grow
  show ((w.heap.modify g _)++os)[k]? =_
  rw[Array.getElem?_append_left (by simpa using hk),Array.getElem?_modify,if_neg (Ne.symm hne)]
 have hsz:w.heap.size≤(sortWorldK (fun x=>encP (f x)) 2 w g 0 m d' os).heap.size:=by
  unfold sortWorldK putRowK putRow mapBlock grow
  show _≤((w.heap.modify g _)++os).size
  simp
 have hos:(sortWorldK (fun x=>encP (f x)) 2 w g 0 m d' os).os=w.os∧(sortWorldK (fun x=>encP (f x)) 2 w g 0 m d' os).tape=w.tape∧(sortWorldK (fun x=>encP (f x)) 2 w g 0 m d' os).output=w.output:=⟨rfl,rfl,rfl⟩
 rcases h with ⟨e,-⟩|⟨b,cap',cur,e,h1,h2,h3,h4,h5,h6,h7⟩
 ·cases e
 ·injection e with e1 e2 e3
  injection e1 with e1
  injection e1 with e1
  subst e1;subst e3
  have hg:=q1l h2
  have hgg:(sortWorldK (fun x=>encP (f x)) 2 w g 0 m d' os).heap[g]? =some (.cells (putCells id 0 (flatK (fun x=>encP (f x)) 2 d') cur) 32 (0,0)):=by
   unfold sortWorldK putRowK putRow mapBlock grow
   show ((w.heap.modify g _)++os)[g]? =_
   rw[Array.getElem?_append_left (by simpa using hg),Array.getElem?_modify,if_pos rfl,h2]
   rfl
  rw[List.length_map,Array.length_toList] at e2 h3 h6
  refine⟨Or.inr ⟨g,cap,_,by simp [e2,hs],h1,hgg,by simp [hs,h3],h4,by simp [putCells,h5],?_,?_⟩,fun k hk hne=>hold k hk (by intro e;exact hne (by rw[e];rfl)),hsz,hos,fun w0 h0 hg0=> ?_⟩
  ·rw[← q52 f d']
   apply List.ext_getElem?
   intro t
   simp only[List.length_map,Array.length_toList]
   by_cases ht:t<d'.size*2
   ·have htc:t<cur.size:=by omega
    have BC:t<(flatK (fun x=>encP (f x)) 2 d').size:=by simpa using ht
    rw[List.getElem?_take,if_pos ht,Array.getElem?_toList,Array.getElem?_toList,putCells,Array.getElem?_mapIdx,Array.getElem?_eq_getElem htc,Option.map_some]
    rw[if_pos ⟨Nat.zero_le _,by rw[Nat.zero_add];exact BC⟩,Nat.sub_zero,getElem!_pos _ t BC,Array.getElem?_eq_getElem BC]
    rfl
   ·rw[List.getElem?_take,if_neg ht,List.getElem?_eq_none (by simp;omega)]
  ·intro x hx
   obtain⟨t,ht⟩:=List.getElem?_of_mem hx
   rw[Array.getElem?_toList,putCells,Array.getElem?_mapIdx] at ht
   obtain⟨y,hy,hyx⟩:=Option.map_eq_some_iff.1 ht
   by_cases hc:0≤t∧t<0+(flatK (fun x=>encP (f x)) 2 d').size
   ·rw[if_pos hc,Nat.sub_zero] at hyx
    have BC:t<(flatK (fun x=>encP (f x)) 2 d').size:=by omega
    rw[getElem!_pos _ t BC] at hyx
    have hm:x∈(flatK (fun x=>encP (f x)) 2 d').toList:=by
     rw[← hyx]
     exact Array.mem_toList_iff.2 (Array.getElem_mem BC)
    rw[q52] at hm
    exact q35 _ hm
   ·rw[if_neg hc] at hyx
    subst hyx
    exact h7 y (List.mem_of_getElem? (by rw[Array.getElem?_toList];exact hy))
  ·obtain⟨g1,g2,g3,g4,g5⟩:=hg0
   exact⟨hos.1.trans g1,hos.2.1.trans g2,hos.2.2.trans g3,Nat.le_trans g4 hsz,fun k hk=>(hold k (by omega) (by omega)).trans (g5 k hk)⟩
end
end Go.Proofs.YtdidnnbpdcanlaaGreatDoor.EN
