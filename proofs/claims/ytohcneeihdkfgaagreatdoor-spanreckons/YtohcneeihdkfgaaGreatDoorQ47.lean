/- What is proved here: a span as an argument of a law, opened and shut, over this seat's translation. -/
import Derived.Test.YtohcneeihdkfgaaGreatDoorQ46
import Derived.WalkKit
import Derived.ProofKit
import Derived.OpenShut
import Derived.WalkLawsBesides
import Derived.Deep.DeepHandedRow
namespace Go.Proofs.YtohcneeihdkfgaaGreatDoor.EN
open Go.ChangeShapes Go.WideShapes Go.ChangeAt Go.RowKit
section
variable {H:Type} {enc:TypeId×Value→H} {W:World} {base:Nat} {sp:Nat→Bool} {held:Bool}
theorem cellsSpan:Tryz.prog.cellsOf 72=2:=by kernel_rfl
theorem qH {n:Nat} {c:Value} {y:DataW H×List MemPlace} (h:DataW.trod enc Tryz.prog W base sp held n 22 [c]=some y):∃ b,c= .float .f64 b∧y=(.lit (.float .f64 b),[])∧(Lit.float .f64 b).wf=true:=by
 cases n with
 |zero=>simp [DataW.trod] at h
 |succ n=>
  simp only[DataW.trod,Tryz.underlying22] at h;split at h<;>simp_all
set_option maxRecDepth 100000 in
theorem open_span {I:Nat} {v:Value} {d:DataW H} {F:List MemPlace} (B:Value.okWide Tryz.prog W .any I 72 v) (L:DataW.Trod enc Tryz.prog W base sp held 72 v d F):
  ∃ x y,v= .agg #[.float .f64 x,.float .f64 y]∧d= .agg [.lit (.float .f64 x),.lit (.float .f64 y)]∧F=[]∧(Lit.float .f64 x).wf=true∧(Lit.float .f64 y).wf=true:=by
 obtain⟨cs,rfl,E⟩:=okWide_struct Tryz.underlying72 B;rw[cellsSpan] at E;obtain⟨A,c1,rfl⟩:∃ A c1,cs=#[A,c1]:=by
  rcases cs with ⟨l⟩
  match l,E with
  |[A,c1],_=>exact⟨A,c1,rfl⟩
 obtain⟨D,M⟩:=L;obtain⟨y0,y1,n,N,-,C,h1⟩:=trod_struct2 Tryz.underlying72 M;have C:DataW.trod enc Tryz.prog W base sp held n 22 [A]=some y0:=C;have h1:DataW.trod enc Tryz.prog W base sp held n 22 [c1]=some y1:=h1;obtain⟨x,rfl,rfl,w0⟩:=qH C;obtain⟨y,rfl,rfl,O⟩:=qH h1;injection N with J K;exact⟨x,y,rfl,J,K,w0,O⟩
set_option maxRecDepth 100000 in
theorem shut_span {x y:Nat} (w0:(Lit.float .f64 x).wf=true) (C:(Lit.float .f64 y).wf=true):DataW.Trod enc Tryz.prog W base sp held 72 (.agg #[.float .f64 x,.float .f64 y]) (.agg [.lit (.float .f64 x),.lit (.float .f64 y)]) []:=by
 have A:DataW.trod enc Tryz.prog W base sp held 1 22 [.float .f64 x]=some (.lit (.float .f64 x),[]):=by simp [DataW.trod,Tryz.underlying22,w0]
 have B:DataW.trod enc Tryz.prog W base sp held 1 22 [.float .f64 y]=some (.lit (.float .f64 y),[]):=by simp [DataW.trod,Tryz.underlying22,C]
 exact⟨2,trod_struct2_mk (n:=1) (cs:=[.float .f64 x,.float .f64 y]) (y0:=(.lit (.float .f64 x),[])) (y1:=(.lit (.float .f64 y),[])) Tryz.underlying72 cellsSpan.symm A B⟩
end
end Go.Proofs.YtohcneeihdkfgaaGreatDoor.EN
