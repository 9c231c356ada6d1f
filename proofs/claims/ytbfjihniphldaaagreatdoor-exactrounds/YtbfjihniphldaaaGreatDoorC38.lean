/- What is proved here: contracts of the reference: Num, Denom of a ratio, its nearest whole number, over this seat's translation. -/
import Derived.Test.YtbfjihniphldaaaGreatDoorC32
import Derived.Test.YtbfjihniphldaaaGreatDoorC34
namespace Go.Proofs.YtbfjihniphldaaaGreatDoor
open Go.ChangeShapes Go.WideShapes Go.ChangeAt Go.RowKit
open BN
theorem qcp (w:World) (b:Nat):
  Calls Tryz.prog 69 #[.pointer (some ⟨b,0,none⟩)] w fun e w'=>e= .returned (.pointer (some ⟨b,0,none⟩))∧G w w':=by
 go_enter Tryz.func69,Tryz.ntmps69;go_wp2_with fail;go_ret;exact⟨rfl,G.refl _⟩
theorem qaR (w:World) (b:Nat) (sa:Int) (B K:Nat) (hK:K≤100000) (hB2:B<2^(32*K)) (hB0:0<B) (hb:b<w.heap.size) (h:RatIs w b sa (B:Int)):
  Calls Tryz.prog 71 #[.pointer (some ⟨b,0,none⟩)] w (RetI w (B:Int)):=by
 have HR:Hid (RatIs w b sa (B:Int)):=h;have HB:Hid ((B:Int)≠0):=by show (B:Int)≠0;omega
 have HB2:Hid ((B:Int).natAbs<2^(32*K)):=by show (B:Int).natAbs<2^(32*K);rw[Int.natAbs_natCast];exact hB2
 clear h hB0 hB2;go_enter Tryz.func71,Tryz.ntmps71;go_wp2_with fail;have hn0:=NI.new (G.refl w) 38;have bK:=(G.refl w).alloc (.cells #[.bool false,.slice none 0 0] 38);obtain⟨pn,hpn⟩:∃ pn,pn=w.heap.size:=⟨_,rfl⟩;rw[← hpn] at hn0 ⊢;have hpw:w.heap.size≤pn:=by omega
 clear hpn;generalize w.alloc (.cells #[.bool false,.slice none 0 0] 38)=wa at *;have cZ:Hid (NI w wa pn 0):=hn0;clear hn0;refine Calls.mono (P:=Tryz.prog) (q4q wa b sa B HB.out (HR.out.G hb bK)) ?_;rintro e w2 ⟨rfl,hg2⟩;have hG2:=G.trans bK hg2;have bW:Hid (NI w w2 pn 0):=cZ.out.G hg2;have HL:Hid _:=q5j w2 pn 0 b 2 0 (B:Int) K (by omega) HB2.out bW.out.2.1 (G.lt hG2 hb) bW.out.2.2 (HR.out.G hb hG2).2;clear bK hg2 cZ;go_wp2_with fail;refine Calls.mono (P:=Tryz.prog) HL.out ?_;intro e w3 hs;obtain⟨p,rfl,h3⟩:=SetTo.ret hG2 hpw bW.out.2.1 hs;clear hs HL;go_wp2_with fail;go_ret;exact⟨p,rfl,h3⟩
end Go.Proofs.YtbfjihniphldaaaGreatDoor
