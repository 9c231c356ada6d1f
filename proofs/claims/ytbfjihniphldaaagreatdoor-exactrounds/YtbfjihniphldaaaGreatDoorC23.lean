/- What is proved here: contracts of the reference's big numbers: Add of Int, over this seat's translation. -/
import Derived.Test.YtbfjihniphldaaaGreatDoorC22
import Derived.Test.YtbfjihniphldaaaGreatDoorC6
namespace Go.Proofs.YtbfjihniphldaaaGreatDoor
open Go.ChangeShapes Go.WideShapes Go.ChangeAt Go.RowKit
open BN
theorem q0R {n:Bool} {a:Nat} {s:Int} (h:sg n a=s):a=s.natAbs:=by rw[← h];unfold sg;split<;>omega
theorem q7l (w:World) (b o bx ox b2 oy:Nat) (s0 sx sy:Int) (K:Nat) (hK:K≤1000000) (hx2:sx.natAbs<2^(32*K)) (hy2:sy.natAbs<2^(32*K)) (hb:b<w.heap.size) (hbx:bx<w.heap.size) (hby:b2<w.heap.size)
  (hz:IntIs w b o s0) (hx:IntIs w bx ox sx) (hy:IntIs w b2 oy sy):
  Calls Tryz.prog 55 #[.pointer (some ⟨b,o,none⟩),.pointer (some ⟨bx,ox,none⟩),.pointer (some ⟨b2,oy,none⟩)] w (SetTo w b o (sx+sy)):=by
 obtain⟨n,v,a,⟨c1,c2,-,-⟩,hv,h1,-⟩:=hx;obtain⟨n',v',a',⟨c3,c4,-,-⟩,hv',h2,-⟩:=hy;have ha:=q0R h1;have ha':=q0R h2;have HW:Hid (∀ w1,G w w1→_):=fun w1 g=>qcf w1 n n' v v' a a' K hK (hv.G g) (hv'.G g) (by omega) (by omega);have HZ:Hid _:=hz;have HS:Hid (sg n a+sg n' a'=sx+sy):=by rw[h1,h2];exact rfl
 clear hz hx2 hy2 hv hv' h1 h2 ha ha';go_enter Tryz.func55,Tryz.ntmps55;go_wp2_with fail;refine wp_region_any (by kernel_rfl) ?_;refine q0o (i:=0) (v:= ?_) rfl (by kernel_rfl) (by kernel_rfl) (by kernel_rfl) (fun _ _ _ h=>h) (Or.inl ⟨by rfl,?_⟩) ?_;rotate_left
 ·intro wq;first|(go_simp;done)|(go_simp;with_reducible rfl)
 try simp only[Act.put,List.setIfInBounds_toArray,List.set_cons_zero,List.set_cons_succ]
 refine q8S (w:=w) (fp:=5) 17 [1,2,3,4,5,6,7,8,9,10,11,12,13,14,15,16] [_,_,_,_,_,_,_,_,_,_,_,_,_,_,_,_] rfl (by kernel_rfl) (by kernel_rfl) (by kernel_rfl) (by kernel_rfl) (by kernel_rfl) (by first|assumption|exact(G.refl _).drew|exact G.drew (by assumption)) ?_;intro W hW;have hq1:=q08 (w:=W) (a:=⟨bx,ox,none⟩) (x:= .bool n) (by rw[hW];first|assumption|(simp;done)|(simp;omega)|omega) (by rw[hW];first|assumption|(simp [go_sem];done)|(simp [*,go_sem];done));have hq2:=q08 (w:=W) (a:=⟨bx,ox+1,none⟩) (x:=v) (by rw[hW];first|assumption|(simp;done)|(simp;omega)|omega) (by rw[hW];first|assumption|(simp [go_sem];done)|(simp [*,go_sem];done));have hq3:=q08 (w:=W) (a:=⟨b2,oy,none⟩) (x:= .bool n') (by rw[hW];first|assumption|(simp;done)|(simp;omega)|omega) (by rw[hW];first|assumption|(simp [go_sem];done)|(simp [*,go_sem];done));have hq4:=q08 (w:=W) (a:=⟨b2,oy+1,none⟩) (x:=v') (by rw[hW];first|assumption|(simp;done)|(simp;omega)|omega) (by rw[hW];first|assumption|(simp [go_sem];done)|(simp [*,go_sem];done));clear hW
 repeat (go_big_quiet_step (fail))
 refine wpQuiet_nil ?_;clear hq1 hq2 hq3 hq4;intro w1 hw1;refine wpAny_ready (rs:=[17]) (by kernel_rfl) (by simp) ?_;refine AllReady.cons rfl (fun K hK=> ?_) AllReady.nil;go_simp;go_wp2_with (go_at_call 125;refine Calls.mono (P:=Tryz.prog) (HW.out w1 hw1) ?_;rintro e w2 ⟨rn,v1,ra,rfl,hg2,hn2,hs2⟩);refine q0o (i:=18) (v:= ?_) rfl (by kernel_rfl) (by kernel_rfl) (by kernel_rfl) (fun _ _ _ h=>h) (Or.inl ⟨by rfl,?_⟩) ?_;rotate_left
 ·intro wq;first|(go_simp;done)|(go_simp;with_reducible rfl)
 try simp only[Act.put,List.setIfInBounds_toArray,List.set_cons_zero,List.set_cons_succ]
 refine q0o (i:=19) (v:= ?_) rfl (by kernel_rfl) (by kernel_rfl) (by kernel_rfl) (fun _ _ _ h=>h) (Or.inl ⟨by rfl,?_⟩) ?_;rotate_left
 ·intro wq;first|(go_simp;done)|(go_simp;with_reducible rfl)
 try simp only[Act.put,List.setIfInBounds_toArray,List.set_cons_zero,List.set_cons_succ]
 refine wpAny_ready (rs:=[20]) (by kernel_rfl) (by simp) ?_;refine AllReady.cons rfl (fun K hK=> ?_) AllReady.nil;go_simp;go_wp2_with (go_at_call 117;refine Calls.mono (P:=Tryz.prog) (q0T (w0:=w) hb (G.trans hw1 hg2) (q1g _ b o _ s0 _ _ (IntIs.G HZ.out hb (G.trans hw1 hg2)) hn2)) ?_;rintro e w3 ⟨rfl,hs3⟩);refine q0o (i:=21) (v:= ?_) rfl (by kernel_rfl) (by kernel_rfl) (by kernel_rfl) (fun _ _ _ h=>h) (Or.inl ⟨by rfl,?_⟩) ?_;rotate_left
 ·intro wq;first|(go_simp;done)|(go_simp;with_reducible rfl)
 try simp only[Act.put,List.setIfInBounds_toArray,List.set_cons_zero,List.set_cons_succ]
 refine wpAny_done (by kernel_rfl) ?_ _;rw[hs2,HS.out] at hs3;go_wp2_with fail;go_ret;exact hs3
end Go.Proofs.YtbfjihniphldaaaGreatDoor
