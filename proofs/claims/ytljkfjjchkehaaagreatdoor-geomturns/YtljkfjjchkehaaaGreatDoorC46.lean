/- What is proved here: a point as an argument of a law, opened and shut, over this seat's translation. -/
import Derived.Test.YtljkfjjchkehaaaGreatDoorC45
import Derived.WalkKit
import Derived.ProofKit
import Derived.OpenShut
import Derived.WalkLawsBesides
import Derived.Deep.DeepHandedRow
namespace Go.Proofs.YtljkfjjchkehaaaGreatDoor.EN
open Go.ChangeShapes Go.WideShapes Go.ChangeAt Go.RowKit
section
variable {H:Type} {enc:TypeId×Value→H} {W:World} {base:Nat} {sp:Nat→Bool} {held:Bool}
theorem cellsPoint:Tryz.prog.cellsOf 66=2:=by kernel_rfl
theorem q5u {n:Nat} {c:Value} {y:DataW H×List MemPlace} (h:DataW.trod enc Tryz.prog W base sp held n 26 [c]=some y):∃ b,c= .float .f64 b∧y=(.lit (.float .f64 b),[])∧(Lit.float .f64 b).wf=true:=by
 cases n with
 |zero=>simp [DataW.trod] at h
 |succ n=>
  simp only[DataW.trod,Tryz.underlying26] at h
  split at h<;>simp_all
set_option maxRecDepth 100000 in
theorem open_point {b0:Nat} {v:Value} {d:DataW H} {ps:List MemPlace} (hval:Value.okWide Tryz.prog W .any b0 66 v) (hd:DataW.Trod enc Tryz.prog W base sp held 66 v d ps):
  ∃ x y,v= .agg #[.float .f64 x,.float .f64 y]∧d= .agg [.lit (.float .f64 x),.lit (.float .f64 y)]∧ps=[]∧(Lit.float .f64 x).wf=true∧(Lit.float .f64 y).wf=true:=by
 obtain⟨cs,rfl,hs⟩:=okWide_struct Tryz.underlying66 hval
 rw[cellsPoint] at hs
 obtain⟨c0,c1,rfl⟩:∃ c0 c1,cs=#[c0,c1]:=by
  rcases cs with ⟨l⟩
  match l,hs with
  |[c0,c1],_=>exact⟨c0,c1,rfl⟩
 obtain⟨fuel,hf⟩:=hd
 obtain⟨y0,y1,n,hx,-,h0,h1⟩:=trod_struct2 Tryz.underlying66 hf
 have h0:DataW.trod enc Tryz.prog W base sp held n 26 [c0]=some y0:=h0
 have h1:DataW.trod enc Tryz.prog W base sp held n 26 [c1]=some y1:=h1
 obtain⟨x,rfl,rfl,w0⟩:=q5u h0
 obtain⟨y,rfl,rfl,w1⟩:=q5u h1
 injection hx with e1 e2
 exact⟨x,y,rfl,e1,e2,w0,w1⟩
set_option maxRecDepth 100000 in
theorem shut_point {x y:Nat} (w0:(Lit.float .f64 x).wf=true) (w1:(Lit.float .f64 y).wf=true):DataW.Trod enc Tryz.prog W base sp held 66 (.agg #[.float .f64 x,.float .f64 y]) (.agg [.lit (.float .f64 x),.lit (.float .f64 y)]) []:=by
 have k0:DataW.trod enc Tryz.prog W base sp held 1 26 [.float .f64 x]=some (.lit (.float .f64 x),[]):=by simp [DataW.trod,Tryz.underlying26,w0]
 have k1:DataW.trod enc Tryz.prog W base sp held 1 26 [.float .f64 y]=some (.lit (.float .f64 y),[]):=by simp [DataW.trod,Tryz.underlying26,w1]
 exact⟨2,trod_struct2_mk (n:=1) (cs:=[.float .f64 x,.float .f64 y]) (y0:=(.lit (.float .f64 x),[])) (y1:=(.lit (.float .f64 y),[])) Tryz.underlying66 cellsPoint.symm k0 k1⟩
end
end Go.Proofs.YtljkfjjchkehaaaGreatDoor.EN
