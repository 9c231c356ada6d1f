/- What is proved here: regions that draw their order, with what is closed shown by itself. -/
import Derived.Test.YtfnkkkcojnffdaaGreatDoorC6
import Derived.Test.YtfnkkkcojnffdaaGreatDoorC22
namespace Go.Proofs.YtfnkkkcojnffdaaGreatDoor
open Go.ChangeShapes Go.WideShapes Go.ChangeAt Go.RowKit
section
variable {P:Program} {ops:Array Oper} {md:Region.Mode} {Q:Exit→Act→World→Prop}
theorem oW {id:Nat} {a:Act} {w:World} (np m:Nat) (R:List Kind) (A:List (Option Tmp)) (h:Letters R (gY P ops Q np m (Array.replicate np true++Array.replicate m false) R A a w)) (I:P.follows .mixedOrders=true:=by kernel_rfl) (B:fw .any ops np=true:=by kernel_rfl) (E:R.length=np:=by exact rfl) (F:(ops.toList.take np).map (·.dst)=A:=by kernel_rfl) (D:eV R:=by repeat (first|exact trivial|refine⟨fun _ _ _ g h=>by first|exact h.G g|exact fun J g3=>h J (aa g g3),?_⟩)) (C:ops.size=np+m:=by kernel_rfl):(Code.region id ops true).wp P Q a w:=iZ np m _ R A I B E F D C rfl h
theorem kZ {i:Nat} {w:World} {p:Value→World→Prop} (v:Value) {R:List Kind} {A:List Value} {n:Nat} (j:Nat) (B:Deps md ops i w n R A) (h1:R[j]? =some (.any p):=by exact rfl) (h2:A[j]? =some v:=by exact rfl) (h3:waits md ops i (n+j)=true:=by kernel_rfl):p v w:=Deps.get (v:=v) j B h1 h2 h3
end
theorem nA {w:World} {p:Value→World→Prop} (v:Value) {R:List Kind} {A:List Value} (j:Nat) (B:Helds w R A) (h1:R[j]? =some (.any p):=by exact rfl) (h2:A[j]? =some v:=by exact rfl):p v w:=Helds.get (v:=v) j B h1 h2
theorem oV {P:Prop} (h:P:=by intro W C A K B;clear A;go_simp;exact B.out _ _ ⟨_,rfl,af _,rfl⟩):P:=h
theorem kP {P:Prop} (h:P:=by clear hD;go_simp;go_wp2_with (guard_target=~ Calls _ _ _ _ _;refine dS hc.out ?_;intro e C B;obtain⟨u9,rfl,g9,A⟩:=B);exact hK.out _ _ ⟨_,rfl,g9,A⟩):P:=h
theorem ed9 {P:Prop} (h:P:=by clear hD;go_simp;go_wp2_with (guard_target=~ Calls _ _ _ _ _;refine dS hc.out ?_;intro e B A;obtain⟨rfl,g9⟩:=A);exact hK.out _ _ ⟨_,rfl,g9,rfl⟩):P:=h
theorem eU {w A:World} {b:Nat} {x y:Value} (h:Hid (Rec w b [x,y])) (g:G w A):A.cell? ⟨b,0,none⟩=some x∧A.cell? ⟨b,1,none⟩=some y∧A.frozen? ⟨b,0,none⟩=false∧A.frozen? ⟨b,1,none⟩=false:=Rec.f2 (bs h.out g)
theorem rc39 {w A:World} {b:Nat} {x y z:Value} (h:Hid (Rec w b [x,y,z])) (g:G w A):A.cell? ⟨b,0,none⟩=some x∧A.cell? ⟨b,1,none⟩=some y∧A.cell? ⟨b,2,none⟩=some z:=have e:=Rec.f3 (bs h.out g);⟨e.1,e.2.1,e.2.2.1⟩
theorem ev {w A:World} {b:Nat} {x y z:Value} (h:Hid (Rec w b [x,y,z])) (g:G w A):A.cell? ⟨b,0,none⟩=some x∧A.cell? ⟨b,1,none⟩=some y∧A.cell? ⟨b,2,none⟩=some z∧A.frozen? ⟨b,0,none⟩=false∧A.frozen? ⟨b,1,none⟩=false∧A.frozen? ⟨b,2,none⟩=false:=Rec.f3 (bs h.out g)
end Go.Proofs.YtfnkkkcojnffdaaGreatDoor
