/- What is proved here: contracts of the reference's big numbers: Add of Int, over this seat's translation. -/
import Derived.Test.YtfnkkkcojnffdaaGreatDoorQ1
import Derived.Test.YtfnkkkcojnffdaaGreatDoorQ8
import Derived.Test.YtfnkkkcojnffdaaGreatDoorQ3
import Derived.Test.YtfnkkkcojnffdaaGreatDoorQ23
import Derived.Test.YtfnkkkcojnffdaaGreatDoorQ5
namespace Go.Proofs.YtfnkkkcojnffdaaGreatDoor
open Go.ChangeShapes Go.WideShapes Go.ChangeAt Go.RowKit
open BN
theorem fP {n:Bool} {a:Nat} {s:Int} (h:sg n a=s):a=s.natAbs:=by rw[← h];unfold sg;split<;>omega
theorem rA (w:World) (b o bx I B J:Nat) (s sx L:Int) (K:Nat) (M:K≤1000000) (Z:sx.natAbs<2^(32*K)) (c:L.natAbs<2^(32*K)) (hb:b<w.heap.size) (al:bx<w.heap.size) (am:B<w.heap.size)
  (m:IntIs w b o s) (hx:IntIs w bx I sx) (hy:IntIs w B J L):
  Calls Tryz.prog 53 #[.pointer (some ⟨b,o,none⟩),.pointer (some ⟨bx,I,none⟩),.pointer (some ⟨B,J,none⟩)] w (SetTo w b o (sx+L)):=by
 obtain⟨n,v,a,⟨c1,c2,-,-⟩,hv,h1,-⟩:=hx;obtain⟨d,y,k,⟨c3,c4,-,-⟩,E,h2,-⟩:=hy;have ha:=fP h1;have N:=fP h2;have HW:Hid (∀ F,G w F→_):=fun F g=>q2y F n d v y a k K M (hv.G g) (E.G g) eK eK;have HZ:=hi9 m;have HS:Hid (sg n a+sg d k=sx+L):=by rw[h1,h2];exact rfl
 clear m Z c hv E h1 h2 ha N;go_enter Tryz.func53,Tryz.ntmps53;go_wp2_with fail;refine wp_region_any eM ?_;refine fo (i:=0) (v:= ?_) rfl eM eM eM (fun _ _ _ h=>h) (Or.inl ⟨by rfl,?_⟩) ?_;rotate_left
 ·intro j;first|(go_simp;done)|(go_simp;with_reducible rfl)
 try simp only[Act.put,aj,au,av]
 refine q1e (w:=w) (fp:=5) 17 [1,2,3,4,5,6,7,8,9,10,11,12,13,14,15,16] [_,_,_,_,_,_,_,_,_,_,_,_,_,_,_,_] rfl eM eM eM eM eM (by first|assumption|exact(ag _).drew|exact G.drew kg) ?_;intro W hW;have R:=ik (w:=W) ⟨bx,I,none⟩ (.bool n);have S:=ik (w:=W) ⟨bx,I+1,none⟩ v;have U:=ik (w:=W) ⟨B,J,none⟩ (.bool d);have X:=ik (w:=W) ⟨B,J+1,none⟩ y;clear hW
 repeat (go_big_quiet_step (fail))
 refine wpQuiet_nil ?_;clear R S U X;intro F A;refine wpAny_ready (rs:=[17]) eM fI ?_;refine AllReady.cons rfl (fun K M=> ?_) AllReady.nil;go_simp;go_wp2_with (go_at_call 114;refine Calls.mono (P:=Tryz.prog) (HW.out F A) ?_;rintro e w2 ⟨rn,v1,ra,rfl,C,O,Y⟩);refine fo (i:=18) (v:= ?_) rfl eM eM eM (fun _ _ _ h=>h) (Or.inl ⟨by rfl,?_⟩) ?_;rotate_left
 ·intro j;first|(go_simp;done)|(go_simp;with_reducible rfl)
 try simp only[Act.put,aj,au,av]
 refine fo (i:=19) (v:= ?_) rfl eM eM eM (fun _ _ _ h=>h) (Or.inl ⟨by rfl,?_⟩) ?_;rotate_left
 ·intro j;first|(go_simp;done)|(go_simp;with_reducible rfl)
 try simp only[Act.put,aj,au,av]
 refine wpAny_ready (rs:=[20]) eM fI ?_;refine AllReady.cons rfl (fun K M=> ?_) AllReady.nil;go_simp;go_wp2_with (go_at_call 113;refine Calls.mono (P:=Tryz.prog) (fQ (w0:=w) hb (aa A C) (gq _ b o _ s _ _ (cD HZ.out hb (aa A C)) O)) ?_;rintro e w3 ⟨rfl,D⟩);refine fo (i:=21) (v:= ?_) rfl eM eM eM (fun _ _ _ h=>h) (Or.inl ⟨by rfl,?_⟩) ?_;rotate_left
 ·intro j;first|(go_simp;done)|(go_simp;with_reducible rfl)
 try simp only[Act.put,aj,au,av]
 refine wpAny_done eM ?_ _;rw[Y,HS.out] at D;go_wp2_with fail;go_ret;exact D
end Go.Proofs.YtfnkkkcojnffdaaGreatDoor
