/- What is proved here: slices of floats as arguments, over this seat's translation (no program). -/
import Derived.Test.YtljkfjjchkehaaaGreatDoorC31
import Derived.ChangeArms
import Derived.Deep.Slices
namespace Go.Proofs.YtljkfjjchkehaaaGreatDoor.EN
open Go.ChangeShapes Go.WideShapes Go.ChangeAt Go.RowKit
theorem q6n {w:World} {a:Addr} {v:Value} (h:w.cell? (a.add 0)=some v):∃ b o,a=⟨b,o,none⟩∧b<w.heap.size:=by
 obtain⟨b,o,s⟩:=a
 have h2:w.cell? ⟨b,o,s⟩=some v:=h
 have hlt:=World.block_lt_of_cell? w ⟨b,o,s⟩ h2
 cases s with
 |none=>exact⟨b,o,rfl,hlt⟩
 |some s=>
  exfalso
  simp only[World.cell?] at h2
  split at h2
  ·simp at h2
  ·cases h2
section
variable {H:Type} {enc:TypeId×Value→H} {P:Program} {w:World} {base fuel:Nat} {spare:Nat→Bool} {held:Bool} {t e:TypeId}
theorem q9m {k:FloatKind} {cs:List Value} {x:DataW H×List MemPlace} (ht:P.underlying t=some (.float k)) (h:DataW.trod enc P w base spare held fuel t cs=some x):∃ b,cs=[.float k b]∧(Lit.float k b).wf=true:=by
 cases fuel with
 |zero=>simp [DataW.trod] at h
 |succ n=>
  unfold DataW.trod at h
  rw[ht] at h
  split at h<;>simp_all
def bitsOf:Value→Nat
 | .float _ b=>b
 |_=>0
theorem fsl_open {v:Value} {d:DataW H} {ps:List MemPlace} (ht:P.underlying t=some (.slice e)) (he:P.underlying e=some (.float .f64)) (hc:P.cellsOf e=1) (hv:v.cells=#[v])
  (h:DataW.Trod enc P w 0 (fun _=>true) true t v d ps):∃ l,FSl w v l∧∀ b∈l,b<2^64:=by
 obtain⟨fuel,hf⟩:=h
 rcases Go.Deep.open_slice1 ht hc hf with ⟨h1,-⟩|⟨a,len,cap,m,n,V,D,Pl,h1,-,h2,-,h3,-,h4⟩
 ·rw[hv] at h1
  have e1:v= .slice none 0 0:=by simpa using h1
  subst e1
  exact⟨[],q1b _ _ _,fun _ h=>(nomatch h)⟩
 ·rw[hv] at h1
  have e1:v= .slice (some a) len cap:=by simpa using h1
  subst e1
  have hm:m=cap:=by rw[h3];rfl
  have hV:∀ i,i<len→V i= .float .f64 (bitsOf (V i))∧bitsOf (V i)<2^64:=fun i hi=>by
   obtain⟨b,e2,hw⟩:=q9m he (h4 i (by omega)).2
   have e3:V i= .float .f64 b:=by simpa using e2
   rw[e3]
   exact⟨rfl,by simpa [Lit.wf,bitsOf] using hw⟩
  refine⟨(List.range len).map fun i=>bitsOf (V i),⟨some a,cap,by simp,by simpa using h2,fun i hi=> ?_⟩,fun b hb=> ?_⟩
  ·have hi':i<len:=by simpa using hi
   obtain⟨b,o,rfl,hb⟩:=q6n (h4 0 (by omega)).1
   have hcell:=(h4 i (by omega)).1
   rw[addr_add] at hcell
   refine⟨b,o,rfl,hb,?_⟩
   rw[hcell,(hV i hi').1]
   simp [List.getD_eq_getElem?_getD,hi',bitsOf]
  ·obtain⟨i,hi,rfl⟩:=List.mem_map.1 hb
   exact(hV i (by simpa using hi)).2
end
end Go.Proofs.YtljkfjjchkehaaaGreatDoor.EN
