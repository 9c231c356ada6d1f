/- What is proved here: a list of points as an argument of a law, over this seat's translation. -/
import Derived.Test.YtdidnnbpdcanlaaGreatDoorC49
import Derived.Test.YtdidnnbpdcanlaaGreatDoorC34
import Derived.Test.YtdidnnbpdcanlaaGreatDoorC44
import Derived.Deep.SlicePairs
namespace Go.Proofs.YtdidnnbpdcanlaaGreatDoor.EN
open Go.ChangeShapes Go.WideShapes Go.ChangeAt Go.RowKit
section
variable {H:Type} {enc:TypeId×Value→H} {w:World}
set_option maxRecDepth 100000 in
theorem psl_open {v:Value} {d:DataW H} {ps:List MemPlace} (hv:v.cells=#[v]) (h:DataW.Trod enc Tryz.prog w 0 (fun _=>true) true 22 v d ps):∃ l,PSl w v l∧∀ p∈l,p.1<2^64∧p.2<2^64:=by
 obtain⟨fuel,hf⟩:=h
 rcases Go.Deep.open_slice_pairs Tryz.underlying22 Tryz.underlying32 cellsPoint rfl rfl q7V q7V hf with ⟨h1,-⟩|⟨a,len,cap,m,n,V0,V1,D0,D1,P0,P1,h1,-,h2,-,h3,-,h4⟩
 ·rw[hv] at h1
  have e1:v= .slice none 0 0:=by simpa using h1
  subst e1
  exact⟨[],⟨none,0,rfl,Nat.le_refl _,fun i hi=>nomatch hi⟩,fun _ h=>nomatch h⟩
 ·rw[hv] at h1
  have e1:v= .slice (some a) len cap:=by simpa using h1
  subst e1
  have hm:m=cap:=by rw[h3];rfl
  have hV:∀ i,i<len→(V0 i= .float .f64 (bitsOf (V0 i))∧bitsOf (V0 i)<2^64)∧(V1 i= .float .f64 (bitsOf (V1 i))∧bitsOf (V1 i)<2^64):=fun i hi=>by
   obtain⟨-,-,k0,k1⟩:=h4 i (by omega)
   have k0:DataW.trod enc Tryz.prog w 0 (fun _=>true) true n 30 [V0 i]=some (D0 i,P0 i):=k0
   have k1:DataW.trod enc Tryz.prog w 0 (fun _=>true) true n 30 [V1 i]=some (D1 i,P1 i):=k1
   obtain⟨x,ex,-,hx⟩:=float_at k0
   obtain⟨y,ey,-,hy⟩:=float_at k1
   rw[ex,ey]
   exact⟨⟨rfl,by simpa [Lit.wf,bitsOf] using hx⟩,rfl,by simpa [Lit.wf,bitsOf] using hy⟩
  refine⟨(List.range len).map fun i=>(bitsOf (V0 i),bitsOf (V1 i)),⟨some a,cap,by simp,by simpa using h2,fun i hi=> ?_⟩,fun p hp=> ?_⟩
  ·have hi':i<len:=by simpa using hi
   obtain⟨b,o,rfl,hb⟩:=q6G (h4 0 (by omega)).1
   obtain⟨c0,c1,-,-⟩:=h4 i (by omega)
   rw[addr_add] at c0 c1
   refine⟨b,o,rfl,hb,?_,?_⟩
   ·rw[c0,(hV i hi').1.1]
    simp [List.getD_eq_getElem?_getD,hi',bitsOf]
   ·rw[show o+i*2+1=o+(i*2+1) from rfl,c1,(hV i hi').2.1]
    simp [List.getD_eq_getElem?_getD,hi',bitsOf]
  ·obtain⟨i,hi,rfl⟩:=List.mem_map.1 hp
   have:=hV i (by simpa using hi)
   exact⟨this.1.2,this.2.2⟩
end
end Go.Proofs.YtdidnnbpdcanlaaGreatDoor.EN
