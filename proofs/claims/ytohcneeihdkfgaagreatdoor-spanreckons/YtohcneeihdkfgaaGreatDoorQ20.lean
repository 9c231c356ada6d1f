/- What is proved here: contracts of the reference's big numbers: Add of Int, over this seat's translation. -/
import Derived.Test.YtohcneeihdkfgaaGreatDoorQ1
import Derived.Test.YtohcneeihdkfgaaGreatDoorQ10
import Derived.Test.YtohcneeihdkfgaaGreatDoorQ3
import Derived.Test.YtohcneeihdkfgaaGreatDoorQ19
import Derived.Test.YtohcneeihdkfgaaGreatDoorQ5
namespace Go.Proofs.YtohcneeihdkfgaaGreatDoor
open Go.ChangeShapes Go.WideShapes Go.ChangeAt Go.RowKit
open BN
theorem gp {n:Bool} {a:Nat} {s:Int} (h:sg n a=s):a=s.natAbs:=by rw[← h];unfold sg;split<;>omega
theorem rZ (w:World) (b o bx I B J:Nat) (s sx L:Int) (K:Nat) (M:K≤1000000) (Z:sx.natAbs<2^(32*K)) (c:L.natAbs<2^(32*K)) (hb:b<w.heap.size) (af:bx<w.heap.size) (ag:B<w.heap.size)
  (m:IntIs w b o s) (hx:IntIs w bx I sx) (hy:IntIs w B J L):
  Calls Tryz.prog 71 #[.pointer (some ⟨b,o,none⟩),.pointer (some ⟨bx,I,none⟩),.pointer (some ⟨B,J,none⟩)] w (SetTo w b o (sx+L)):=by
 obtain⟨n,v,a,⟨c1,c2,-,-⟩,hv,h1,-⟩:=hx;obtain⟨d,y,k,⟨c3,c4,-,-⟩,E,h2,-⟩:=hy;have ha:=gp h1;have N:=gp h2;have HW:Hid (∀ F,G w F→_):=fun F g=>q5F F n d v y a k K M (hv.G g) (E.G g) eX eX;have HZ:=hi9 m;have HS:Hid (sg n a+sg d k=sx+L):=by rw[h1,h2];exact rfl
 clear m Z c hv E h1 h2 ha N;go_enter Tryz.func71,Tryz.ntmps71;go_wp2_with fail;refine wp_region_any eZ ?_;refine fP (i:=0) (v:= ?_) rfl eZ eZ eZ (fun _ _ _ h=>h) (Or.inl ⟨by rfl,?_⟩) ?_;rotate_left
 ·intro j;first|(go_simp;done)|(go_simp;with_reducible rfl)
 try simp only[Act.put,aq,ay,az]
 refine q41 (w:=w) (fp:=5) 17 [1,2,3,4,5,6,7,8,9,10,11,12,13,14,15,16] [_,_,_,_,_,_,_,_,_,_,_,_,_,_,_,_] rfl eZ eZ eZ eZ eZ (by first|assumption|exact(ad _).drew|exact G.drew mB) ?_;intro W hW;have R:=iP (w:=W) ⟨bx,I,none⟩ (.bool n);have S:=iP (w:=W) ⟨bx,I+1,none⟩ v;have U:=iP (w:=W) ⟨B,J,none⟩ (.bool d);have X:=iP (w:=W) ⟨B,J+1,none⟩ y;clear hW
 repeat (go_big_quiet_step (fail))
 refine wpQuiet_nil ?_;clear R S U X;intro F A;refine wpAny_ready (rs:=[17]) eZ fX ?_;refine AllReady.cons rfl (fun K M=> ?_) AllReady.nil;go_simp;go_wp2_with (go_at_call 159;refine Calls.mono (P:=Tryz.prog) (HW.out F A) ?_;rintro e w2 ⟨rn,v1,ra,rfl,C,O,Y⟩);refine fP (i:=18) (v:= ?_) rfl eZ eZ eZ (fun _ _ _ h=>h) (Or.inl ⟨by rfl,?_⟩) ?_;rotate_left
 ·intro j;first|(go_simp;done)|(go_simp;with_reducible rfl)
 try simp only[Act.put,aq,ay,az]
 refine fP (i:=19) (v:= ?_) rfl eZ eZ eZ (fun _ _ _ h=>h) (Or.inl ⟨by rfl,?_⟩) ?_;rotate_left
 ·intro j;first|(go_simp;done)|(go_simp;with_reducible rfl)
 try simp only[Act.put,aq,ay,az]
 refine wpAny_ready (rs:=[20]) eZ fX ?_;refine AllReady.cons rfl (fun K M=> ?_) AllReady.nil;go_simp;go_wp2_with (go_at_call 158;refine Calls.mono (P:=Tryz.prog) (gy (w0:=w) hb (ab A C) (gO _ b o _ s _ _ (df HZ.out hb (ab A C)) O)) ?_;rintro e w3 ⟨rfl,D⟩);refine fP (i:=21) (v:= ?_) rfl eZ eZ eZ (fun _ _ _ h=>h) (Or.inl ⟨by rfl,?_⟩) ?_;rotate_left
 ·intro j;first|(go_simp;done)|(go_simp;with_reducible rfl)
 try simp only[Act.put,aq,ay,az]
 refine wpAny_done eZ ?_ _;rw[Y,HS.out] at D;go_wp2_with fail;go_ret;exact D
end Go.Proofs.YtohcneeihdkfgaaGreatDoor
