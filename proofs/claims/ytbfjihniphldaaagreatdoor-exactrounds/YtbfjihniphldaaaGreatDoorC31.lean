/- What is proved here: contracts of the reference's ratios: Mul of Rat, over this seat's translation. -/
import Derived.Test.YtbfjihniphldaaaGreatDoorC29
import Derived.Test.YtbfjihniphldaaaGreatDoorC7
namespace Go.Proofs.YtbfjihniphldaaaGreatDoor
open Go.ChangeShapes Go.WideShapes Go.ChangeAt Go.RowKit
open BN
theorem NormTo.after {w w1:World} {b:Nat} {sa:Int} {sb:Nat} {e:Ending} {w':World} (g:G w w1) (h:NormTo w1 b sa sb e w'):NormTo w b sa sb e w':=
 ⟨h.1,(GX.of g).trans h.2.1,h.2.2⟩
theorem q9o (w:World) (bz bx ox:Nat) (s1 s2 sx:Int) (K:Nat) (hK:K≤300000) (hK1:1≤K) (hA2:sx.natAbs<2^(32*K)) (hbz:bz<w.heap.size) (hbx:bx<w.heap.size)
  (hz:RatIs w bz s1 s2) (hx:IntIs w bx ox sx):
  Calls Tryz.prog 148 #[.pointer (some ⟨bz,0,none⟩),.pointer (some ⟨bx,ox,none⟩)] w (NormTo w bz sx 1):=by
 have h1:1<2^(32*K):=Nat.one_lt_two_pow (by omega);have HF:Hid (∀ w1 p,G w w1→p<w1.heap.size→IntIs w1 p 0 1→_):=fun w1 p g hp hi=>q0Z w1 bz bx ox p 0 s1 s2 sx 1 K hK hA2 h1 (by omega) (G.lt g hbz) (G.lt g hbx) hp (hz.G hbz g) (hx.G hbx g) hi;have HE:Hid (Int.tdiv sx (Nat.gcd sx.natAbs 1:Nat)=sx∧1/Nat.gcd sx.natAbs 1=1):=by
  rw[Nat.gcd_one_right];exact⟨Int.tdiv_one sx,rfl⟩
 rw[HE.out.1,HE.out.2] at HF;clear hz hx h1 hA2 HE;go_enter Tryz.func148,Tryz.ntmps148;go_wp2_with fail;refine Calls.mono (P:=Tryz.prog) (q1q w 1 (by omega)) ?_;intro e w1 h;obtain⟨p,rfl,hg1,-,hp2,hpi⟩:=h;have HS:Hid _:=HF.out w1 p hg1 hp2 hpi;clear HF hp2 hpi;go_wp2_with fail;refine Calls.mono (P:=Tryz.prog) HS.out ?_;intro e w2 hs;have hs2:=NormTo.after hg1 hs;obtain⟨rfl,k1,k2⟩:=hs2;go_wp2_with fail;go_ret;exact⟨rfl,k1,k2⟩
end Go.Proofs.YtbfjihniphldaaaGreatDoor
