/- What is proved here: contracts of the reference: NewRat over 1, powers of two of either sign, over this seat's translation. -/
import Derived.Test.YtljkfjjchkehaaaGreatDoorC27
import Derived.Test.YtljkfjjchkehaaaGreatDoorC28
import Derived.Test.YtljkfjjchkehaaaGreatDoorC16
namespace Go.Proofs.YtljkfjjchkehaaaGreatDoor
open Go.ChangeShapes Go.WideShapes Go.ChangeAt Go.RowKit
open BN
theorem q7y (w:World) (x:Int) (hx: -9223372036854775808≤x∧x≤9223372036854775807):
  Calls Tryz.prog 120 #[.int .i64 x,.int .i64 1] w (RetR w x 1):=by
 have h2:x.natAbs<2^(32*2):=by omega
 have HN:Hid (∀ w,Calls _ _ _ w (RetI w x)):=fun w=>q2a w x hx
 have HF:Hid (∀ w1 z q p,z<w1.heap.size→RatIs w1 z 0 0→q<w1.heap.size→IntIs w1 q 0 x→p<w1.heap.size→IntIs w1 p 0 1→_):=fun w1 z q p hz hiz hq CR hp hi=>q0N w1 z q 0 p 0 0 0 x 1 2 (by omega) h2 (by omega) (by omega) hz hq hp hiz CR hi
 have HE:Hid (Int.tdiv x (Nat.gcd x.natAbs 1:Nat)=x∧1/Nat.gcd x.natAbs 1=1):=by
  rw[Nat.gcd_one_right];exact⟨Int.tdiv_one x,rfl⟩
 rw[HE.out.1,HE.out.2] at HF
 clear h2 HE hx
 go_enter Tryz.func120,Tryz.ntmps120
 go_wp2_with fail
 have hr0:=q2t w 40
 have hga:=(G.refl w).alloc (.cells #[.bool false,.slice none 0 0,.bool false,.slice none 0 0] 40)
 have hzs:w.heap.size<(w.alloc (.cells #[.bool false,.slice none 0 0,.bool false,.slice none 0 0] 40)).heap.size:=by simp
 have hz0:w.heap.size≤w.heap.size:=Nat.le_refl _
 generalize w.alloc (.cells #[.bool false,.slice none 0 0,.bool false,.slice none 0 0] 40)=w1 at *
 have HR1:Hid (RatIs w1 w.heap.size 0 0):=hr0
 clear hr0
 refine Calls.mono (P:=Tryz.prog) (HN.out w1) ?_
 intro e w2 h
 obtain⟨q,rfl,hg2,-,hq2,hqi⟩:=h
 have HQ:Hid (IntIs w2 q 0 x):=hqi
 have hG2:=G.trans hga hg2
 have xV:=G.lt hg2 hzs
 have HR2:Hid (RatIs w2 w.heap.size 0 0):=HR1.out.G hzs hg2
 clear hqi HN HR1 hzs hga hg2
 go_wp2_with fail
 refine Calls.mono (P:=Tryz.prog) (q2a w2 1 (by omega)) ?_
 intro e w3 h
 obtain⟨p,rfl,hg3,-,hp3,hpi⟩:=h
 have hG3:=G.trans hG2 hg3
 have BP:=G.lt hg3 xV
 have HS:Hid _:=HF.out w3 w.heap.size q p BP (HR2.out.G xV hg3) (G.lt hg3 hq2) (IntIs.G HQ.out hq2 hg3) hp3 hpi
 clear HF hp3 hpi hG2 hg3 HR2 HQ hq2 xV
 go_wp2_with fail
 refine Calls.mono (P:=Tryz.prog) HS.out ?_
 intro e w4 hs
 obtain⟨r,rfl,k1,k2,k3,k4⟩:=NormTo.ret hG3 hz0 BP hs
 have mX:Hid (RatIs w4 r x ((1:Nat):Int)):=k4
 clear hs k4 HS
 go_wp2_with fail
 go_ret
 exact⟨r,rfl,k1,k2,k3,mX.out⟩
end Go.Proofs.YtljkfjjchkehaaaGreatDoor
