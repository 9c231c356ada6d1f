/- What is proved here: contracts of the reference: powers of two as ratios, over this seat's translation.
What is proved here: contracts of the reference's ratios: Add of Rat, over this seat's translation.
What is proved here: contracts of the reference's ratios: Sub of Rat, over this seat's translation.
What is proved here: contracts of the reference's ratios: den of any Rat, laid or new, over this seat's translation.
What is proved here: contracts of the reference's ratios: Add of Rat, of laid ones and of new ones, over this seat's translation. -/
import Derived.Test.YtljkfjjchkehaaaGreatDoorC25
import Derived.Test.YtljkfjjchkehaaaGreatDoorC16
import Derived.Test.YtljkfjjchkehaaaGreatDoorC20
namespace Go.Proofs.YtljkfjjchkehaaaGreatDoor
open Go.ChangeShapes Go.WideShapes Go.ChangeAt Go.RowKit
open BN
/-- A call hands back a new Rat; nothing that was there has turned. -/
def RetR (w:World) (sa:Int) (sb:Nat) (e:Ending) (w':World):Prop:=∃ p,e= .returned (.pointer (some ⟨p,0,none⟩))∧G w w'∧w.heap.size≤p∧p<w'.heap.size∧RatIs w' p sa (sb:Int)
theorem NormTo.ret {w0 w:World} {b:Nat} {sa:Int} {sb:Nat} {e:Ending} {w':World} (g:G w0 w) (hb:w0.heap.size≤b) (hs:b<w.heap.size) (h:NormTo w b sa sb e w'):RetR w0 sa sb e w':=
 ⟨b,h.1,GX.fresh g h.2.1 hb,hb,Nat.lt_of_lt_of_le hs h.2.1.size,h.2.2⟩
set_option maxRecDepth 10000 in
set_option maxHeartbeats 8000000 in
theorem qat (w:World) (bz bx b2:Nat) (s1 s2 xa ya:Int) (xb yb:Nat) (KB:Nat) (hK:KB≤100000) (hx2:xa.natAbs<2^(32*KB)) (hy2:ya.natAbs<2^(32*KB)) (gy:xb<2^(32*KB)) (gU:yb<2^(32*KB)) (hxb:0<xb) (hyb:0<yb)
  (hbz:bz<w.heap.size) (hbx:bx<w.heap.size) (hby:b2<w.heap.size) (hz:RatIs w bz s1 s2) (hx:RatIs w bx xa xb) (hy:RatIs w b2 ya yb):
  Calls Tryz.prog 31 #[.pointer (some ⟨bz,0,none⟩),.pointer (some ⟨bx,0,none⟩),.pointer (some ⟨b2,0,none⟩)] w (NormTo w bz (Int.tdiv (xa*(yb:Int)-ya*(xb:Int)) (Nat.gcd (xa*(yb:Int)-ya*(xb:Int)).natAbs (xb*yb):Nat)) (xb*yb/Nat.gcd (xa*(yb:Int)-ya*(xb:Int)).natAbs (xb*yb))):=by
 have iE:Hid (xa.natAbs<2^(32*KB)):=hx2
 have kM:Hid (ya.natAbs<2^(32*KB)):=hy2
 have jT:Hid ((xb:Int).natAbs<2^(32*KB)):=by show (xb:Int).natAbs<2^(32*KB);rw[Int.natAbs_natCast];exact gy
 have gV:Hid ((yb:Int).natAbs<2^(32*KB)):=by show (yb:Int).natAbs<2^(32*KB);rw[Int.natAbs_natCast];exact gU
 have HX0:Hid (IntIs w bx 0 xa):=hx.1
 have qB:Hid (IntIs w b2 0 ya):=hy.1
 have Bc:Hid (IntIs w bx 2 xb):=hx.2
 have Bu:Hid (IntIs w b2 2 yb):=hy.2
 have mo:Hid (RatIs w bx xa xb):=hx
 have jc:Hid (RatIs w b2 ya yb):=hy
 have Bv:Hid (RatIs w bz s1 s2):=hz
 have gD:(xb:Int)≠0:=by omega
 have dD:(yb:Int)≠0:=by omega
 have rQ:32*(2*KB)=32*KB+32*KB:=by omega
 have hn1:(xa*(yb:Int)).natAbs<2^(32*(2*KB)):=by
  rw[Int.natAbs_mul,Int.natAbs_natCast,rQ,Nat.pow_add]
  exact Nat.mul_lt_mul'' hx2 gU
 have hn2:(ya*(xb:Int)).natAbs<2^(32*(2*KB)):=by
  rw[Int.natAbs_mul,Int.natAbs_natCast,rQ,Nat.pow_add]
  exact Nat.mul_lt_mul'' hy2 gy
 have hd2:xb*yb<2^(32*(2*KB)):=by
  rw[rQ,Nat.pow_add]
  exact Nat.mul_lt_mul'' gy gU
 have hup:2^(32*(2*KB))*2≤2^(32*(2*KB+1)):=by rw[← Nat.pow_succ];exact Nat.pow_le_pow_right (by omega) (by omega)
 have ko:Hid ((xa*(yb:Int)).natAbs<2^(32*(2*KB))):=hn1
 have ek:Hid ((ya*(xb:Int)).natAbs<2^(32*(2*KB))):=hn2
 have pF:Hid ((xa*(yb:Int)-ya*(xb:Int)).natAbs<2^(32*(2*KB+1))):=by
  show (xa*(yb:Int)-ya*(xb:Int)).natAbs<2^(32*(2*KB+1))
  have:=Int.natAbs_sub_le (xa*(yb:Int)) (ya*(xb:Int))
  omega
 have HD2:Hid (xb*yb<2^(32*(2*KB+1))):=by show xb*yb<2^(32*(2*KB+1));omega
 have HD0:Hid (0<xb*yb):=Nat.mul_pos hxb hyb
 clear hx hy hz hx2 hy2 gy gU hxb hyb rQ hn1 hn2 hd2 hup
 go_enter Tryz.func31,Tryz.ntmps31
 go_wp2_with fail
 apply share
 ·intro LX
  refine q0P 15 (G w) (by kernel_rfl) (by first|exact(G.refl _).drew|exact G.drew (by assumption)) ?_
  intro bU
  refine q02 2 (v:= ?_) rfl (by kernel_rfl) (fun _ _ _ h=>h) rfl ?_ ‹_› ?_
  rotate_left
  ·intro wq hwq
   first|(go_simp;done)|(go_simp;with_reducible rfl)
  try simp only[aput,List.set]
  refine q02 3 (v:= ?_) rfl (by kernel_rfl) (fun _ _ _ h=>h) rfl ?_ ‹_› ?_
  rotate_left
  ·intro wq hwq
   first|(go_simp;done)|(go_simp;with_reducible rfl)
  try simp only[aput,List.set]
  refine q02 4 (v:= ?_) rfl (by kernel_rfl) (fun _ _ _ h=>h) rfl ?_ ‹_› ?_
  rotate_left
  ·intro wq hwq
   first|(go_simp;done)|(go_simp;with_reducible rfl)
  try simp only[aput,List.set]
  refine q02 5 (v:= ?_) rfl (by kernel_rfl) (fun _ _ _ h=>h) rfl ?_ ‹_› ?_
  rotate_left
  ·intro wq hwq
   first|(go_simp;done)|(go_simp;with_reducible rfl)
  try simp only[aput,List.set]
  refine q02 9 (v:= ?_) rfl (by kernel_rfl) (fun _ _ _ h=>h) rfl ?_ ‹_› ?_
  rotate_left
  ·intro wq hwq
   first|(go_simp;done)|(go_simp;with_reducible rfl)
  try simp only[aput,List.set]
  refine q02 10 (v:= ?_) rfl (by kernel_rfl) (fun _ _ _ h=>h) rfl ?_ ‹_› ?_
  rotate_left
  ·intro wq hwq
   first|(go_simp;done)|(go_simp;with_reducible rfl)
  try simp only[aput,List.set]
  refine q02 11 (v:= ?_) rfl (by kernel_rfl) (fun _ _ _ h=>h) rfl ?_ ‹_› ?_
  rotate_left
  ·intro wq hwq
   first|(go_simp;done)|(go_simp;with_reducible rfl)
  try simp only[aput,List.set]
  refine q02 12 (v:= ?_) rfl (by kernel_rfl) (fun _ _ _ h=>h) rfl ?_ ‹_› ?_
  rotate_left
  ·intro wq hwq
   first|(go_simp;done)|(go_simp;with_reducible rfl)
  try simp only[aput,List.set]
  show q0A _ _ _ _ _ _ _ _ _ w.drew
  have hS5:=bU
  generalize w.drew=w5 at *
  clear bU
  apply share
  intro dU
  apply share
  intro dB
  apply share
  intro dX
  apply share
  intro gF
  apply share
  intro dG
  apply share
  intro dY
  apply share
  intro iX
  apply share
  intro eX
  apply share
  intro iY
  apply share
  intro iZ
  apply share
  intro j3
  apply share
  intro j4
  apply share
  intro pG
  apply share
  intro pI
  apply share
  intro pJ
  apply share
  intro kN
  apply share
  intro pK
  apply share
  intro pM
  refine q3b (i:=0) (j:=1) (l:=6) (m:=8) (by kernel_rfl) rfl rfl rfl rfl ?_ ?_ ?_ ?_
  ·skip
   intro K hK
   go_simp
   refine hK.out _ _ (Or.inr (hS5.alloc _)) ?_
   clear hK K
   have hn:=NI.new hS5 38
   have hal:=(G.refl w5).alloc (.cells #[.bool false,.slice none 0 0] 38)
   have aJ:=G.trans hS5 hal
   generalize w5.heap.size=p0 at *
   generalize w5.alloc (.cells #[.bool false,.slice none 0 0] 38)=w6 at *
   have jU:=hid hn
   clear hn hal
   refine q0l (i:=1) (j:=6) (l:=8) (by kernel_rfl) rfl rfl rfl ?_ ?_ ?_
   ·skip
    intro K hK
    go_simp
    refine hK.out _ _ (Or.inr (aJ.alloc _)) ?_
    clear hK K
    have hn:=NI.new aJ 38
    have hal:=(G.refl w6).alloc (.cells #[.bool false,.slice none 0 0] 38)
    have aC:=G.trans aJ hal
    have bL:=hid (jU.out.G hal)
    have au:w6.heap.size≠p0:=by have:=jU.out.2.1;omega
    generalize w6.heap.size=p1 at *
    generalize w6.alloc (.cells #[.bool false,.slice none 0 0] 38)=w7 at *
    have bg:=hid hn
    have aa:Hid (p0≠p1):=au.symm
    have ae:Hid (p1≠p0):=au
    clear hn hal aJ jU au
    refine q00 (l':=#[true,true,true,true,true,true,false,false,false,true,true,true,true,false,false,false,false]) (by kernel_rfl) ?_
    revert ae
    revert aa
    revert bg
    revert bL
    revert aC
    revert p1
    revert p0
    revert w7
    exact pG.out
   ·skip
    intro K hK
    go_simp
    go_wp2_with (go_at_call 50;refine Calls.mono (P:=Tryz.prog) (q23 w6 b2 ya yb dD (jc.out.G hby aJ)) ?_;rintro e w7 ⟨rfl,hg⟩)
    refine hK.out _ _ (Or.inr (G.trans aJ hg)) ?_
    clear hK K
    have aC:=G.trans aJ hg
    have bL:=hid (jU.out.G hg)
    clear hg aJ jU
    refine q00 (l':=#[true,false,true,true,true,true,true,false,false,true,true,true,true,false,false,false,false]) (by kernel_rfl) ?_
    revert bL
    revert aC
    revert p0
    revert w7
    exact pJ.out
   ·skip
    intro K hK
    go_simp
    refine hK.out _ _ (Or.inr (aJ.alloc _)) ?_
    clear hK K
    have hn:=NI.new aJ 38
    have hal:=(G.refl w6).alloc (.cells #[.bool false,.slice none 0 0] 38)
    have aC:=G.trans aJ hal
    have bL:=hid (jU.out.G hal)
    have au:w6.heap.size≠p0:=by have:=jU.out.2.1;omega
    generalize w6.heap.size=p2 at *
    generalize w6.alloc (.cells #[.bool false,.slice none 0 0] 38)=w7 at *
    have bM:=hid hn
    have ai:Hid (p0≠p2):=au.symm
    have aj:Hid (p2≠p0):=au
    clear hn hal aJ jU au
    refine q00 (l':=#[true,false,true,true,true,true,false,false,true,true,true,true,true,false,false,false,false]) (by kernel_rfl) ?_
    revert aj
    revert ai
    revert bM
    revert bL
    revert aC
    revert p2
    revert p0
    revert w7
    exact pI.out
  ·skip
   intro K hK
   go_simp
   refine hK.out _ _ (Or.inr (hS5.alloc _)) ?_
   clear hK K
   have hn:=NI.new hS5 38
   have hal:=(G.refl w5).alloc (.cells #[.bool false,.slice none 0 0] 38)
   have aJ:=G.trans hS5 hal
   generalize w5.heap.size=p1 at *
   generalize w5.alloc (.cells #[.bool false,.slice none 0 0] 38)=w6 at *
   have jV:=hid hn
   clear hn hal
   refine q0l (i:=0) (j:=6) (l:=8) (by kernel_rfl) rfl rfl rfl ?_ ?_ ?_
   ·skip
    intro K hK
    go_simp
    refine hK.out _ _ (Or.inr (aJ.alloc _)) ?_
    clear hK K
    have hn:=NI.new aJ 38
    have hal:=(G.refl w6).alloc (.cells #[.bool false,.slice none 0 0] 38)
    have aC:=G.trans aJ hal
    have bg:=hid (jV.out.G hal)
    have ah:w6.heap.size≠p1:=by have:=jV.out.2.1;omega
    generalize w6.heap.size=p0 at *
    generalize w6.alloc (.cells #[.bool false,.slice none 0 0] 38)=w7 at *
    have bL:=hid hn
    have ae:Hid (p1≠p0):=ah.symm
    have aa:Hid (p0≠p1):=ah
    clear hn hal aJ jV ah
    refine q00 (l':=#[true,true,true,true,true,true,false,false,false,true,true,true,true,false,false,false,false]) (by kernel_rfl) ?_
    revert ae
    revert aa
    revert bg
    revert bL
    revert aC
    revert p1
    revert p0
    revert w7
    exact pG.out
   ·skip
    intro K hK
    go_simp
    go_wp2_with (go_at_call 50;refine Calls.mono (P:=Tryz.prog) (q23 w6 b2 ya yb dD (jc.out.G hby aJ)) ?_;rintro e w7 ⟨rfl,hg⟩)
    refine hK.out _ _ (Or.inr (G.trans aJ hg)) ?_
    clear hK K
    have aC:=G.trans aJ hg
    have bg:=hid (jV.out.G hg)
    clear hg aJ jV
    refine q00 (l':=#[false,true,true,true,true,true,true,false,false,true,true,true,true,false,false,false,false]) (by kernel_rfl) ?_
    revert bg
    revert aC
    revert p1
    revert w7
    exact pK.out
   ·skip
    intro K hK
    go_simp
    refine hK.out _ _ (Or.inr (aJ.alloc _)) ?_
    clear hK K
    have hn:=NI.new aJ 38
    have hal:=(G.refl w6).alloc (.cells #[.bool false,.slice none 0 0] 38)
    have aC:=G.trans aJ hal
    have bg:=hid (jV.out.G hal)
    have ah:w6.heap.size≠p1:=by have:=jV.out.2.1;omega
    generalize w6.heap.size=p2 at *
    generalize w6.alloc (.cells #[.bool false,.slice none 0 0] 38)=w7 at *
    have bM:=hid hn
    have af:Hid (p1≠p2):=ah.symm
    have ag:Hid (p2≠p1):=ah
    clear hn hal aJ jV ah
    refine q00 (l':=#[false,true,true,true,true,true,false,false,true,true,true,true,true,false,false,false,false]) (by kernel_rfl) ?_
    revert af
    revert ag
    revert bM
    revert bg
    revert aC
    revert p2
    revert p1
    revert w7
    exact kN.out
  ·skip
   intro K hK
   go_simp
   go_wp2_with (go_at_call 50;refine Calls.mono (P:=Tryz.prog) (q23 w5 b2 ya yb dD (jc.out.G hby hS5)) ?_;rintro e w6 ⟨rfl,hg⟩)
   refine hK.out _ _ (Or.inr (G.trans hS5 hg)) ?_
   clear hK K
   have aJ:=G.trans hS5 hg
   clear hg
   refine q0l (i:=0) (j:=1) (l:=8) (by kernel_rfl) rfl rfl rfl ?_ ?_ ?_
   ·skip
    intro K hK
    go_simp
    refine hK.out _ _ (Or.inr (aJ.alloc _)) ?_
    clear hK K
    have hn:=NI.new aJ 38
    have hal:=(G.refl w6).alloc (.cells #[.bool false,.slice none 0 0] 38)
    have aC:=G.trans aJ hal
    generalize w6.heap.size=p0 at *
    generalize w6.alloc (.cells #[.bool false,.slice none 0 0] 38)=w7 at *
    have bL:=hid hn
    clear hn hal aJ
    refine q00 (l':=#[true,false,true,true,true,true,true,false,false,true,true,true,true,false,false,false,false]) (by kernel_rfl) ?_
    revert bL
    revert aC
    revert p0
    revert w7
    exact pJ.out
   ·skip
    intro K hK
    go_simp
    refine hK.out _ _ (Or.inr (aJ.alloc _)) ?_
    clear hK K
    have hn:=NI.new aJ 38
    have hal:=(G.refl w6).alloc (.cells #[.bool false,.slice none 0 0] 38)
    have aC:=G.trans aJ hal
    generalize w6.heap.size=p1 at *
    generalize w6.alloc (.cells #[.bool false,.slice none 0 0] 38)=w7 at *
    have bg:=hid hn
    clear hn hal aJ
    refine q00 (l':=#[false,true,true,true,true,true,true,false,false,true,true,true,true,false,false,false,false]) (by kernel_rfl) ?_
    revert bg
    revert aC
    revert p1
    revert w7
    exact pK.out
   ·skip
    intro K hK
    go_simp
    refine hK.out _ _ (Or.inr (aJ.alloc _)) ?_
    clear hK K
    have hn:=NI.new aJ 38
    have hal:=(G.refl w6).alloc (.cells #[.bool false,.slice none 0 0] 38)
    have aC:=G.trans aJ hal
    generalize w6.heap.size=p2 at *
    generalize w6.alloc (.cells #[.bool false,.slice none 0 0] 38)=w7 at *
    have bM:=hid hn
    clear hn hal aJ
    refine q00 (l':=#[false,false,true,true,true,true,true,false,true,true,true,true,true,false,false,false,false]) (by kernel_rfl) ?_
    revert bM
    revert aC
    revert p2
    revert w7
    exact pM.out
  ·skip
   intro K hK
   go_simp
   refine hK.out _ _ (Or.inr (hS5.alloc _)) ?_
   clear hK K
   have hn:=NI.new hS5 38
   have hal:=(G.refl w5).alloc (.cells #[.bool false,.slice none 0 0] 38)
   have aJ:=G.trans hS5 hal
   generalize w5.heap.size=p2 at *
   generalize w5.alloc (.cells #[.bool false,.slice none 0 0] 38)=w6 at *
   have jW:=hid hn
   clear hn hal
   refine q0l (i:=0) (j:=1) (l:=6) (by kernel_rfl) rfl rfl rfl ?_ ?_ ?_
   ·skip
    intro K hK
    go_simp
    refine hK.out _ _ (Or.inr (aJ.alloc _)) ?_
    clear hK K
    have hn:=NI.new aJ 38
    have hal:=(G.refl w6).alloc (.cells #[.bool false,.slice none 0 0] 38)
    have aC:=G.trans aJ hal
    have bM:=hid (jW.out.G hal)
    have ak:w6.heap.size≠p2:=by have:=jW.out.2.1;omega
    generalize w6.heap.size=p0 at *
    generalize w6.alloc (.cells #[.bool false,.slice none 0 0] 38)=w7 at *
    have bL:=hid hn
    have aj:Hid (p2≠p0):=ak.symm
    have ai:Hid (p0≠p2):=ak
    clear hn hal aJ jW ak
    refine q00 (l':=#[true,false,true,true,true,true,false,false,true,true,true,true,true,false,false,false,false]) (by kernel_rfl) ?_
    revert aj
    revert ai
    revert bM
    revert bL
    revert aC
    revert p2
    revert p0
    revert w7
    exact pI.out
   ·skip
    intro K hK
    go_simp
    refine hK.out _ _ (Or.inr (aJ.alloc _)) ?_
    clear hK K
    have hn:=NI.new aJ 38
    have hal:=(G.refl w6).alloc (.cells #[.bool false,.slice none 0 0] 38)
    have aC:=G.trans aJ hal
    have bM:=hid (jW.out.G hal)
    have ak:w6.heap.size≠p2:=by have:=jW.out.2.1;omega
    generalize w6.heap.size=p1 at *
    generalize w6.alloc (.cells #[.bool false,.slice none 0 0] 38)=w7 at *
    have bg:=hid hn
    have ag:Hid (p2≠p1):=ak.symm
    have af:Hid (p1≠p2):=ak
    clear hn hal aJ jW ak
    refine q00 (l':=#[false,true,true,true,true,true,false,false,true,true,true,true,true,false,false,false,false]) (by kernel_rfl) ?_
    revert af
    revert ag
    revert bM
    revert bg
    revert aC
    revert p2
    revert p1
    revert w7
    exact kN.out
   ·skip
    intro K hK
    go_simp
    go_wp2_with (go_at_call 50;refine Calls.mono (P:=Tryz.prog) (q23 w6 b2 ya yb dD (jc.out.G hby aJ)) ?_;rintro e w7 ⟨rfl,hg⟩)
    refine hK.out _ _ (Or.inr (G.trans aJ hg)) ?_
    clear hK K
    have aC:=G.trans aJ hg
    have bM:=hid (jW.out.G hg)
    clear hg aJ jW
    refine q00 (l':=#[false,false,true,true,true,true,true,false,true,true,true,true,true,false,false,false,false]) (by kernel_rfl) ?_
    revert bM
    revert aC
    revert p2
    revert w7
    exact pM.out
  refine Later.mk ?_
  intro w7 p2 aC bM
  refine q09 (i:=0) (j:=1) (by kernel_rfl) rfl rfl ?_ ?_
  ·skip
   intro K hK
   go_simp
   refine hK.out _ _ (Or.inr (aC.alloc _)) ?_
   clear hK K
   have hn:=NI.new aC 38
   have hal:=(G.refl w7).alloc (.cells #[.bool false,.slice none 0 0] 38)
   have aG:=G.trans aC hal
   have bV:=hid (bM.out.G hal)
   have ak:w7.heap.size≠p2:=by have:=bM.out.2.1;omega
   generalize w7.heap.size=p0 at *
   generalize w7.alloc (.cells #[.bool false,.slice none 0 0] 38)=w8 at *
   have bW:=hid hn
   have aj:Hid (p2≠p0):=ak.symm
   have ai:Hid (p0≠p2):=ak
   clear hn hal aC bM ak
   refine q00 (l':=#[true,false,true,true,true,true,true,false,true,true,true,true,true,false,false,false,false]) (by kernel_rfl) ?_
   revert aj
   revert ai
   revert bV
   revert bW
   revert aG
   revert p2
   revert p0
   revert w8
   exact j3.out
  ·skip
   intro K hK
   go_simp
   refine hK.out _ _ (Or.inr (aC.alloc _)) ?_
   clear hK K
   have hn:=NI.new aC 38
   have hal:=(G.refl w7).alloc (.cells #[.bool false,.slice none 0 0] 38)
   have aG:=G.trans aC hal
   have bV:=hid (bM.out.G hal)
   have ak:w7.heap.size≠p2:=by have:=bM.out.2.1;omega
   generalize w7.heap.size=p1 at *
   generalize w7.alloc (.cells #[.bool false,.slice none 0 0] 38)=w8 at *
   have aN:=hid hn
   have ag:Hid (p2≠p1):=ak.symm
   have af:Hid (p1≠p2):=ak
   clear hn hal aC bM ak
   refine q00 (l':=#[false,true,true,true,true,true,true,false,true,true,true,true,true,false,false,false,false]) (by kernel_rfl) ?_
   revert af
   revert ag
   revert bV
   revert aN
   revert aG
   revert p2
   revert p1
   revert w8
   exact j4.out
  refine Later.mk ?_
  intro w7 p1 aC bg
  refine q0l (i:=0) (j:=7) (l:=8) (by kernel_rfl) rfl rfl rfl ?_ ?_ ?_
  ·skip
   intro K hK
   go_simp
   refine hK.out _ _ (Or.inr (aC.alloc _)) ?_
   clear hK K
   have hn:=NI.new aC 38
   have hal:=(G.refl w7).alloc (.cells #[.bool false,.slice none 0 0] 38)
   have aG:=G.trans aC hal
   have aN:=hid (bg.out.G hal)
   have ah:w7.heap.size≠p1:=by have:=bg.out.2.1;omega
   generalize w7.heap.size=p0 at *
   generalize w7.alloc (.cells #[.bool false,.slice none 0 0] 38)=w8 at *
   have bW:=hid hn
   have ae:Hid (p1≠p0):=ah.symm
   have aa:Hid (p0≠p1):=ah
   clear hn hal aC bg ah
   refine q00 (l':=#[true,true,true,true,true,true,true,false,false,true,true,true,true,false,false,false,false]) (by kernel_rfl) ?_
   revert ae
   revert aa
   revert aN
   revert bW
   revert aG
   revert p1
   revert p0
   revert w8
   exact iZ.out
  ·skip
   intro K hK
   go_simp
   have dh:Hid _:=q17 w7 p1 0 bx 0 b2 2 0 xa yb KB (by omega) iE.out gV.out bg.out.2.1 (G.lt aC hbx) (G.lt aC hby) bg.out.2.2 (IntIs.G HX0.out hbx aC) (IntIs.G Bu.out hby aC)
   go_wp2_with (go_at_call 49;refine Calls.mono (P:=Tryz.prog) dh.out ?_;intro e w8 hx;obtain⟨rfl,aG,hl,-,hkp⟩:=SetTo.step aC bg.out hx)
   have aN:=hid hl
   refine hK.out _ _ (Or.inr aG) ?_
   clear hK K hx hl hkp dh aC bg
   refine q0l (i:=0) (j:=8) (l:=13) (by kernel_rfl) rfl rfl rfl ?_ ?_ ?_
   ·skip
    intro K hK
    go_simp
    refine hK.out _ _ (Or.inr (aG.alloc _)) ?_
    clear hK K
    have hn:=NI.new aG 38
    have hal:=(G.refl w8).alloc (.cells #[.bool false,.slice none 0 0] 38)
    have aI:=G.trans aG hal
    have aY:=hid (aN.out.G hal)
    have ah:w8.heap.size≠p1:=by have:=aN.out.2.1;omega
    generalize w8.heap.size=p0 at *
    generalize w8.alloc (.cells #[.bool false,.slice none 0 0] 38)=w9 at *
    have dI:=hid hn
    have ae:Hid (p1≠p0):=ah.symm
    have aa:Hid (p0≠p1):=ah
    clear hn hal aG aN ah
    refine q00 (l':=#[true,true,true,true,true,true,true,true,false,true,true,true,true,false,false,false,false]) (by kernel_rfl) ?_
    revert ae
    revert aa
    revert aY
    revert dI
    revert aI
    revert p1
    revert p0
    revert w9
    exact iX.out
   ·skip
    intro K hK
    go_simp
    refine hK.out _ _ (Or.inr (aG.alloc _)) ?_
    clear hK K
    have hn:=NI.new aG 38
    have hal:=(G.refl w8).alloc (.cells #[.bool false,.slice none 0 0] 38)
    have aI:=G.trans aG hal
    have aY:=hid (aN.out.G hal)
    have ah:w8.heap.size≠p1:=by have:=aN.out.2.1;omega
    generalize w8.heap.size=p2 at *
    generalize w8.alloc (.cells #[.bool false,.slice none 0 0] 38)=w9 at *
    have dJ:=hid hn
    have af:Hid (p1≠p2):=ah.symm
    have ag:Hid (p2≠p1):=ah
    clear hn hal aG aN ah
    refine q00 (l':=#[false,true,true,true,true,true,true,true,true,true,true,true,true,false,false,false,false]) (by kernel_rfl) ?_
    revert af
    revert ag
    revert dJ
    revert aY
    revert aI
    revert p2
    revert p1
    revert w9
    exact eX.out
   ·skip
    intro K hK
    go_simp
    go_wp2_with (go_at_call 50;refine Calls.mono (P:=Tryz.prog) (q23 w8 bx xa xb gD (mo.out.G hbx aG)) ?_;rintro e w9 ⟨rfl,hg⟩)
    refine hK.out _ _ (Or.inr (G.trans aG hg)) ?_
    clear hK K
    have aI:=G.trans aG hg
    have aY:=hid (aN.out.G hg)
    clear hg aG aN
    refine q09 (i:=0) (j:=8) (by kernel_rfl) rfl rfl ?_ ?_
    ·skip
     intro K hK
     go_simp
     refine hK.out _ _ (Or.inr (aI.alloc _)) ?_
     clear hK K
     have hn:=NI.new aI 38
     have hal:=(G.refl w9).alloc (.cells #[.bool false,.slice none 0 0] 38)
     have aF:=G.trans aI hal
     have aK:=hid (aY.out.G hal)
     have ah:w9.heap.size≠p1:=by have:=aY.out.2.1;omega
     generalize w9.heap.size=p0 at *
     generalize w9.alloc (.cells #[.bool false,.slice none 0 0] 38)=aX at *
     have bI:=hid hn
     have ae:Hid (p1≠p0):=ah.symm
     have aa:Hid (p0≠p1):=ah
     clear hn hal aI aY ah
     refine q00 (l':=#[true,true,true,true,true,true,true,true,false,true,true,true,true,true,false,false,false]) (by kernel_rfl) ?_
     revert ae
     revert aa
     revert aK
     revert bI
     revert aF
     revert p1
     revert p0
     revert aX
     exact gF.out
    ·skip
     intro K hK
     go_simp
     refine hK.out _ _ (Or.inr (aI.alloc _)) ?_
     clear hK K
     have hn:=NI.new aI 38
     have hal:=(G.refl w9).alloc (.cells #[.bool false,.slice none 0 0] 38)
     have aF:=G.trans aI hal
     have aK:=hid (aY.out.G hal)
     have ah:w9.heap.size≠p1:=by have:=aY.out.2.1;omega
     generalize w9.heap.size=p2 at *
     generalize w9.alloc (.cells #[.bool false,.slice none 0 0] 38)=aX at *
     have aW:=hid hn
     have af:Hid (p1≠p2):=ah.symm
     have ag:Hid (p2≠p1):=ah
     clear hn hal aI aY ah
     refine q00 (l':=#[false,true,true,true,true,true,true,true,true,true,true,true,true,true,false,false,false]) (by kernel_rfl) ?_
     revert af
     revert ag
     revert aW
     revert aK
     revert aF
     revert p2
     revert p1
     revert aX
     exact dG.out
  ·skip
   intro K hK
   go_simp
   refine hK.out _ _ (Or.inr (aC.alloc _)) ?_
   clear hK K
   have hn:=NI.new aC 38
   have hal:=(G.refl w7).alloc (.cells #[.bool false,.slice none 0 0] 38)
   have aG:=G.trans aC hal
   have aN:=hid (bg.out.G hal)
   have ah:w7.heap.size≠p1:=by have:=bg.out.2.1;omega
   generalize w7.heap.size=p2 at *
   generalize w7.alloc (.cells #[.bool false,.slice none 0 0] 38)=w8 at *
   have bV:=hid hn
   have af:Hid (p1≠p2):=ah.symm
   have ag:Hid (p2≠p1):=ah
   clear hn hal aC bg ah
   refine q00 (l':=#[false,true,true,true,true,true,true,false,true,true,true,true,true,false,false,false,false]) (by kernel_rfl) ?_
   revert af
   revert ag
   revert bV
   revert aN
   revert aG
   revert p2
   revert p1
   revert w8
   exact j4.out
  refine Later.mk ?_
  intro w7 p1 p2 aC bg bM ag af
  refine q09 (i:=0) (j:=6) (by kernel_rfl) rfl rfl ?_ ?_
  ·skip
   intro K hK
   go_simp
   refine hK.out _ _ (Or.inr (aC.alloc _)) ?_
   clear hK K
   have hn:=NI.new aC 38
   have hal:=(G.refl w7).alloc (.cells #[.bool false,.slice none 0 0] 38)
   have aG:=G.trans aC hal
   have aN:=hid (bg.out.G hal)
   have bV:=hid (bM.out.G hal)
   have ah:w7.heap.size≠p1:=by have:=bg.out.2.1;omega
   have ak:w7.heap.size≠p2:=by have:=bM.out.2.1;omega
   generalize w7.heap.size=p0 at *
   generalize w7.alloc (.cells #[.bool false,.slice none 0 0] 38)=w8 at *
   have bW:=hid hn
   have ae:Hid (p1≠p0):=ah.symm
   have aa:Hid (p0≠p1):=ah
   have aj:Hid (p2≠p0):=ak.symm
   have ai:Hid (p0≠p2):=ak
   clear hn hal aC bg bM ah ak
   refine q00 (l':=#[true,true,true,true,true,true,false,false,true,true,true,true,true,false,false,false,false]) (by kernel_rfl) ?_
   revert aj
   revert ae
   revert af
   revert ai
   revert ag
   revert aa
   revert bV
   revert aN
   revert bW
   revert aG
   revert p2
   revert p1
   revert p0
   revert w8
   exact iY.out
  ·skip
   intro K hK
   go_simp
   go_wp2_with (go_at_call 50;refine Calls.mono (P:=Tryz.prog) (q23 w7 b2 ya yb dD (jc.out.G hby aC)) ?_;rintro e w8 ⟨rfl,hg⟩)
   refine hK.out _ _ (Or.inr (G.trans aC hg)) ?_
   clear hK K
   have aG:=G.trans aC hg
   have aN:=hid (bg.out.G hg)
   have bV:=hid (bM.out.G hg)
   clear hg aC bg bM
   refine q00 (l':=#[false,true,true,true,true,true,true,false,true,true,true,true,true,false,false,false,false]) (by kernel_rfl) ?_
   revert af
   revert ag
   revert bV
   revert aN
   revert aG
   revert p2
   revert p1
   revert w8
   exact j4.out
  refine Later.mk ?_
  intro w7 p0 aC bL
  refine q09 (i:=1) (j:=8) (by kernel_rfl) rfl rfl ?_ ?_
  ·skip
   intro K hK
   go_simp
   refine hK.out _ _ (Or.inr (aC.alloc _)) ?_
   clear hK K
   have hn:=NI.new aC 38
   have hal:=(G.refl w7).alloc (.cells #[.bool false,.slice none 0 0] 38)
   have aG:=G.trans aC hal
   have bW:=hid (bL.out.G hal)
   have au:w7.heap.size≠p0:=by have:=bL.out.2.1;omega
   generalize w7.heap.size=p1 at *
   generalize w7.alloc (.cells #[.bool false,.slice none 0 0] 38)=w8 at *
   have aN:=hid hn
   have aa:Hid (p0≠p1):=au.symm
   have ae:Hid (p1≠p0):=au
   clear hn hal aC bL au
   refine q00 (l':=#[true,true,true,true,true,true,true,false,false,true,true,true,true,false,false,false,false]) (by kernel_rfl) ?_
   revert ae
   revert aa
   revert aN
   revert bW
   revert aG
   revert p1
   revert p0
   revert w8
   exact iZ.out
  ·skip
   intro K hK
   go_simp
   refine hK.out _ _ (Or.inr (aC.alloc _)) ?_
   clear hK K
   have hn:=NI.new aC 38
   have hal:=(G.refl w7).alloc (.cells #[.bool false,.slice none 0 0] 38)
   have aG:=G.trans aC hal
   have bW:=hid (bL.out.G hal)
   have au:w7.heap.size≠p0:=by have:=bL.out.2.1;omega
   generalize w7.heap.size=p2 at *
   generalize w7.alloc (.cells #[.bool false,.slice none 0 0] 38)=w8 at *
   have bV:=hid hn
   have ai:Hid (p0≠p2):=au.symm
   have aj:Hid (p2≠p0):=au
   clear hn hal aC bL au
   refine q00 (l':=#[true,false,true,true,true,true,true,false,true,true,true,true,true,false,false,false,false]) (by kernel_rfl) ?_
   revert aj
   revert ai
   revert bV
   revert bW
   revert aG
   revert p2
   revert p0
   revert w8
   exact j3.out
  refine Later.mk ?_
  intro w7 p0 p2 aC bL bM ai aj
  refine q09 (i:=1) (j:=6) (by kernel_rfl) rfl rfl ?_ ?_
  ·skip
   intro K hK
   go_simp
   refine hK.out _ _ (Or.inr (aC.alloc _)) ?_
   clear hK K
   have hn:=NI.new aC 38
   have hal:=(G.refl w7).alloc (.cells #[.bool false,.slice none 0 0] 38)
   have aG:=G.trans aC hal
   have bW:=hid (bL.out.G hal)
   have bV:=hid (bM.out.G hal)
   have au:w7.heap.size≠p0:=by have:=bL.out.2.1;omega
   have ak:w7.heap.size≠p2:=by have:=bM.out.2.1;omega
   generalize w7.heap.size=p1 at *
   generalize w7.alloc (.cells #[.bool false,.slice none 0 0] 38)=w8 at *
   have aN:=hid hn
   have aa:Hid (p0≠p1):=au.symm
   have ae:Hid (p1≠p0):=au
   have ag:Hid (p2≠p1):=ak.symm
   have af:Hid (p1≠p2):=ak
   clear hn hal aC bL bM au ak
   refine q00 (l':=#[true,true,true,true,true,true,false,false,true,true,true,true,true,false,false,false,false]) (by kernel_rfl) ?_
   revert aj
   revert ae
   revert af
   revert ai
   revert ag
   revert aa
   revert bV
   revert aN
   revert bW
   revert aG
   revert p2
   revert p1
   revert p0
   revert w8
   exact iY.out
  ·skip
   intro K hK
   go_simp
   go_wp2_with (go_at_call 50;refine Calls.mono (P:=Tryz.prog) (q23 w7 b2 ya yb dD (jc.out.G hby aC)) ?_;rintro e w8 ⟨rfl,hg⟩)
   refine hK.out _ _ (Or.inr (G.trans aC hg)) ?_
   clear hK K
   have aG:=G.trans aC hg
   have bW:=hid (bL.out.G hg)
   have bV:=hid (bM.out.G hg)
   clear hg aC bL bM
   refine q00 (l':=#[true,false,true,true,true,true,true,false,true,true,true,true,true,false,false,false,false]) (by kernel_rfl) ?_
   revert aj
   revert ai
   revert bV
   revert bW
   revert aG
   revert p2
   revert p0
   revert w8
   exact j3.out
  refine Later.mk ?_
  intro w7 p0 p1 aC bL bg aa ae
  refine q09 (i:=6) (j:=8) (by kernel_rfl) rfl rfl ?_ ?_
  ·skip
   intro K hK
   go_simp
   go_wp2_with (go_at_call 50;refine Calls.mono (P:=Tryz.prog) (q23 w7 b2 ya yb dD (jc.out.G hby aC)) ?_;rintro e w8 ⟨rfl,hg⟩)
   refine hK.out _ _ (Or.inr (G.trans aC hg)) ?_
   clear hK K
   have aG:=G.trans aC hg
   have bW:=hid (bL.out.G hg)
   have aN:=hid (bg.out.G hg)
   clear hg aC bL bg
   refine q00 (l':=#[true,true,true,true,true,true,true,false,false,true,true,true,true,false,false,false,false]) (by kernel_rfl) ?_
   revert ae
   revert aa
   revert aN
   revert bW
   revert aG
   revert p1
   revert p0
   revert w8
   exact iZ.out
  ·skip
   intro K hK
   go_simp
   refine hK.out _ _ (Or.inr (aC.alloc _)) ?_
   clear hK K
   have hn:=NI.new aC 38
   have hal:=(G.refl w7).alloc (.cells #[.bool false,.slice none 0 0] 38)
   have aG:=G.trans aC hal
   have bW:=hid (bL.out.G hal)
   have aN:=hid (bg.out.G hal)
   have au:w7.heap.size≠p0:=by have:=bL.out.2.1;omega
   have ah:w7.heap.size≠p1:=by have:=bg.out.2.1;omega
   generalize w7.heap.size=p2 at *
   generalize w7.alloc (.cells #[.bool false,.slice none 0 0] 38)=w8 at *
   have bV:=hid hn
   have ai:Hid (p0≠p2):=au.symm
   have aj:Hid (p2≠p0):=au
   have af:Hid (p1≠p2):=ah.symm
   have ag:Hid (p2≠p1):=ah
   clear hn hal aC bL bg au ah
   refine q00 (l':=#[true,true,true,true,true,true,false,false,true,true,true,true,true,false,false,false,false]) (by kernel_rfl) ?_
   revert aj
   revert ae
   revert af
   revert ai
   revert ag
   revert aa
   revert bV
   revert aN
   revert bW
   revert aG
   revert p2
   revert p1
   revert p0
   revert w8
   exact iY.out
  refine Later.mk ?_
  intro w8 p1 p2 aG aN bV ag af
  refine q09 (i:=0) (j:=7) (by kernel_rfl) rfl rfl ?_ ?_
  ·skip
   intro K hK
   go_simp
   refine hK.out _ _ (Or.inr (aG.alloc _)) ?_
   clear hK K
   have hn:=NI.new aG 38
   have hal:=(G.refl w8).alloc (.cells #[.bool false,.slice none 0 0] 38)
   have aI:=G.trans aG hal
   have aY:=hid (aN.out.G hal)
   have dJ:=hid (bV.out.G hal)
   have ah:w8.heap.size≠p1:=by have:=aN.out.2.1;omega
   have ak:w8.heap.size≠p2:=by have:=bV.out.2.1;omega
   generalize w8.heap.size=p0 at *
   generalize w8.alloc (.cells #[.bool false,.slice none 0 0] 38)=w9 at *
   have dI:=hid hn
   have ae:Hid (p1≠p0):=ah.symm
   have aa:Hid (p0≠p1):=ah
   have aj:Hid (p2≠p0):=ak.symm
   have ai:Hid (p0≠p2):=ak
   clear hn hal aG aN bV ah ak
   refine q00 (l':=#[true,true,true,true,true,true,true,false,true,true,true,true,true,false,false,false,false]) (by kernel_rfl) ?_
   revert aj
   revert ae
   revert af
   revert ai
   revert ag
   revert aa
   revert dJ
   revert aY
   revert dI
   revert aI
   revert p2
   revert p1
   revert p0
   revert w9
   exact dY.out
  ·skip
   intro K hK
   go_simp
   have dh:Hid _:=q17 w8 p1 0 bx 0 b2 2 0 xa yb KB (by omega) iE.out gV.out aN.out.2.1 (G.lt aG hbx) (G.lt aG hby) aN.out.2.2 (IntIs.G HX0.out hbx aG) (IntIs.G Bu.out hby aG)
   go_wp2_with (go_at_call 49;refine Calls.mono (P:=Tryz.prog) dh.out ?_;intro e w9 hx;obtain⟨rfl,aI,hl,-,hkp⟩:=SetTo.step aG aN.out hx)
   have aY:=hid hl
   have dJ:=hid (hkp _ _ ag.out bV.out)
   refine hK.out _ _ (Or.inr aI) ?_
   clear hK K hx hl hkp dh aG aN bV
   refine q00 (l':=#[false,true,true,true,true,true,true,true,true,true,true,true,true,false,false,false,false]) (by kernel_rfl) ?_
   revert af
   revert ag
   revert dJ
   revert aY
   revert aI
   revert p2
   revert p1
   revert w9
   exact eX.out
  refine Later.mk ?_
  intro w8 p0 p2 aG bW bV ai aj
  refine q03 (i:=1) (by kernel_rfl) rfl ?_
  intro K hK
  go_simp
  refine hK.out _ _ (Or.inr (aG.alloc _)) ?_
  clear hK K
  have hn:=NI.new aG 38
  have hal:=(G.refl w8).alloc (.cells #[.bool false,.slice none 0 0] 38)
  have aI:=G.trans aG hal
  have dI:=hid (bW.out.G hal)
  have dJ:=hid (bV.out.G hal)
  have au:w8.heap.size≠p0:=by have:=bW.out.2.1;omega
  have ak:w8.heap.size≠p2:=by have:=bV.out.2.1;omega
  generalize w8.heap.size=p1 at *
  generalize w8.alloc (.cells #[.bool false,.slice none 0 0] 38)=w9 at *
  have aY:=hid hn
  have aa:Hid (p0≠p1):=au.symm
  have ae:Hid (p1≠p0):=au
  have ag:Hid (p2≠p1):=ak.symm
  have af:Hid (p1≠p2):=ak
  clear hn hal aG bW bV au ak
  refine q00 (l':=#[true,true,true,true,true,true,true,false,true,true,true,true,true,false,false,false,false]) (by kernel_rfl) ?_
  revert aj
  revert ae
  revert af
  revert ai
  revert ag
  revert aa
  revert dJ
  revert aY
  revert dI
  revert aI
  revert p2
  revert p1
  revert p0
  revert w9
  exact dY.out
  refine Later.mk ?_
  intro w8 p0 p1 aG bW aN aa ae
  refine q09 (i:=7) (j:=8) (by kernel_rfl) rfl rfl ?_ ?_
  ·skip
   intro K hK
   go_simp
   have dh:Hid _:=q17 w8 p1 0 bx 0 b2 2 0 xa yb KB (by omega) iE.out gV.out aN.out.2.1 (G.lt aG hbx) (G.lt aG hby) aN.out.2.2 (IntIs.G HX0.out hbx aG) (IntIs.G Bu.out hby aG)
   go_wp2_with (go_at_call 49;refine Calls.mono (P:=Tryz.prog) dh.out ?_;intro e w9 hx;obtain⟨rfl,aI,hl,-,hkp⟩:=SetTo.step aG aN.out hx)
   have aY:=hid hl
   have dI:=hid (hkp _ _ aa.out bW.out)
   refine hK.out _ _ (Or.inr aI) ?_
   clear hK K hx hl hkp dh aG bW aN
   refine q00 (l':=#[true,true,true,true,true,true,true,true,false,true,true,true,true,false,false,false,false]) (by kernel_rfl) ?_
   revert ae
   revert aa
   revert aY
   revert dI
   revert aI
   revert p1
   revert p0
   revert w9
   exact iX.out
  ·skip
   intro K hK
   go_simp
   refine hK.out _ _ (Or.inr (aG.alloc _)) ?_
   clear hK K
   have hn:=NI.new aG 38
   have hal:=(G.refl w8).alloc (.cells #[.bool false,.slice none 0 0] 38)
   have aI:=G.trans aG hal
   have dI:=hid (bW.out.G hal)
   have aY:=hid (aN.out.G hal)
   have au:w8.heap.size≠p0:=by have:=bW.out.2.1;omega
   have ah:w8.heap.size≠p1:=by have:=aN.out.2.1;omega
   generalize w8.heap.size=p2 at *
   generalize w8.alloc (.cells #[.bool false,.slice none 0 0] 38)=w9 at *
   have dJ:=hid hn
   have ai:Hid (p0≠p2):=au.symm
   have aj:Hid (p2≠p0):=au
   have af:Hid (p1≠p2):=ah.symm
   have ag:Hid (p2≠p1):=ah
   clear hn hal aG bW aN au ah
   refine q00 (l':=#[true,true,true,true,true,true,true,false,true,true,true,true,true,false,false,false,false]) (by kernel_rfl) ?_
   revert aj
   revert ae
   revert af
   revert ai
   revert ag
   revert aa
   revert dJ
   revert aY
   revert dI
   revert aI
   revert p2
   revert p1
   revert p0
   revert w9
   exact dY.out
  refine Later.mk ?_
  intro w8 p0 p1 p2 aG bW aN bV aa ag ai af ae aj
  refine q03 (i:=6) (by kernel_rfl) rfl ?_
  intro K hK
  go_simp
  go_wp2_with (go_at_call 50;refine Calls.mono (P:=Tryz.prog) (q23 w8 b2 ya yb dD (jc.out.G hby aG)) ?_;rintro e w9 ⟨rfl,hg⟩)
  refine hK.out _ _ (Or.inr (G.trans aG hg)) ?_
  clear hK K
  have aI:=G.trans aG hg
  have dI:=hid (bW.out.G hg)
  have aY:=hid (aN.out.G hg)
  have dJ:=hid (bV.out.G hg)
  clear hg aG bW aN bV
  refine q00 (l':=#[true,true,true,true,true,true,true,false,true,true,true,true,true,false,false,false,false]) (by kernel_rfl) ?_
  revert aj
  revert ae
  revert af
  revert ai
  revert ag
  revert aa
  revert dJ
  revert aY
  revert dI
  revert aI
  revert p2
  revert p1
  revert p0
  revert w9
  exact dY.out
  refine Later.mk ?_
  intro w9 p1 p2 aI aY dJ ag af
  refine q09 (i:=0) (j:=13) (by kernel_rfl) rfl rfl ?_ ?_
  ·skip
   intro K hK
   go_simp
   refine hK.out _ _ (Or.inr (aI.alloc _)) ?_
   clear hK K
   have hn:=NI.new aI 38
   have hal:=(G.refl w9).alloc (.cells #[.bool false,.slice none 0 0] 38)
   have aF:=G.trans aI hal
   have aK:=hid (aY.out.G hal)
   have aW:=hid (dJ.out.G hal)
   have ah:w9.heap.size≠p1:=by have:=aY.out.2.1;omega
   have ak:w9.heap.size≠p2:=by have:=dJ.out.2.1;omega
   generalize w9.heap.size=p0 at *
   generalize w9.alloc (.cells #[.bool false,.slice none 0 0] 38)=aX at *
   have bI:=hid hn
   have ae:Hid (p1≠p0):=ah.symm
   have aa:Hid (p0≠p1):=ah
   have aj:Hid (p2≠p0):=ak.symm
   have ai:Hid (p0≠p2):=ak
   clear hn hal aI aY dJ ah ak
   refine q00 (l':=#[true,true,true,true,true,true,true,true,true,true,true,true,true,false,false,false,false]) (by kernel_rfl) ?_
   revert aj
   revert ae
   revert af
   revert ai
   revert ag
   revert aa
   revert aW
   revert aK
   revert bI
   revert aF
   revert p2
   revert p1
   revert p0
   revert aX
   exact dX.out
  ·skip
   intro K hK
   go_simp
   go_wp2_with (go_at_call 50;refine Calls.mono (P:=Tryz.prog) (q23 w9 bx xa xb gD (mo.out.G hbx aI)) ?_;rintro e aX ⟨rfl,hg⟩)
   refine hK.out _ _ (Or.inr (G.trans aI hg)) ?_
   clear hK K
   have aF:=G.trans aI hg
   have aK:=hid (aY.out.G hg)
   have aW:=hid (dJ.out.G hg)
   clear hg aI aY dJ
   refine q00 (l':=#[false,true,true,true,true,true,true,true,true,true,true,true,true,true,false,false,false]) (by kernel_rfl) ?_
   revert af
   revert ag
   revert aW
   revert aK
   revert aF
   revert p2
   revert p1
   revert aX
   exact dG.out
  refine Later.mk ?_
  intro w9 p0 p1 aI dI aY aa ae
  refine q09 (i:=8) (j:=13) (by kernel_rfl) rfl rfl ?_ ?_
  ·skip
   intro K hK
   go_simp
   refine hK.out _ _ (Or.inr (aI.alloc _)) ?_
   clear hK K
   have hn:=NI.new aI 38
   have hal:=(G.refl w9).alloc (.cells #[.bool false,.slice none 0 0] 38)
   have aF:=G.trans aI hal
   have bI:=hid (dI.out.G hal)
   have aK:=hid (aY.out.G hal)
   have au:w9.heap.size≠p0:=by have:=dI.out.2.1;omega
   have ah:w9.heap.size≠p1:=by have:=aY.out.2.1;omega
   generalize w9.heap.size=p2 at *
   generalize w9.alloc (.cells #[.bool false,.slice none 0 0] 38)=aX at *
   have aW:=hid hn
   have ai:Hid (p0≠p2):=au.symm
   have aj:Hid (p2≠p0):=au
   have af:Hid (p1≠p2):=ah.symm
   have ag:Hid (p2≠p1):=ah
   clear hn hal aI dI aY au ah
   refine q00 (l':=#[true,true,true,true,true,true,true,true,true,true,true,true,true,false,false,false,false]) (by kernel_rfl) ?_
   revert aj
   revert ae
   revert af
   revert ai
   revert ag
   revert aa
   revert aW
   revert aK
   revert bI
   revert aF
   revert p2
   revert p1
   revert p0
   revert aX
   exact dX.out
  ·skip
   intro K hK
   go_simp
   go_wp2_with (go_at_call 50;refine Calls.mono (P:=Tryz.prog) (q23 w9 bx xa xb gD (mo.out.G hbx aI)) ?_;rintro e aX ⟨rfl,hg⟩)
   refine hK.out _ _ (Or.inr (G.trans aI hg)) ?_
   clear hK K
   have aF:=G.trans aI hg
   have bI:=hid (dI.out.G hg)
   have aK:=hid (aY.out.G hg)
   clear hg aI dI aY
   refine q00 (l':=#[true,true,true,true,true,true,true,true,false,true,true,true,true,true,false,false,false]) (by kernel_rfl) ?_
   revert ae
   revert aa
   revert aK
   revert bI
   revert aF
   revert p1
   revert p0
   revert aX
   exact gF.out
  refine Later.mk ?_
  intro w9 p0 p1 p2 aI dI aY dJ aa ag ai af ae aj
  refine q03 (i:=7) (by kernel_rfl) rfl ?_
  intro K hK
  go_simp
  have dh:Hid _:=q17 w9 p1 0 bx 0 b2 2 0 xa yb KB (by omega) iE.out gV.out aY.out.2.1 (G.lt aI hbx) (G.lt aI hby) aY.out.2.2 (IntIs.G HX0.out hbx aI) (IntIs.G Bu.out hby aI)
  go_wp2_with (go_at_call 49;refine Calls.mono (P:=Tryz.prog) dh.out ?_;intro e aX hx;obtain⟨rfl,aF,hl,-,hkp⟩:=SetTo.step aI aY.out hx)
  have aK:=hid hl
  have bI:=hid (hkp _ _ aa.out dI.out)
  have aW:=hid (hkp _ _ ag.out dJ.out)
  refine hK.out _ _ (Or.inr aF) ?_
  clear hK K hx hl hkp dh aI dI aY dJ
  refine q00 (l':=#[true,true,true,true,true,true,true,true,true,true,true,true,true,false,false,false,false]) (by kernel_rfl) ?_
  revert aj
  revert ae
  revert af
  revert ai
  revert ag
  revert aa
  revert aW
  revert aK
  revert bI
  revert aF
  revert p2
  revert p1
  revert p0
  revert aX
  exact dX.out
  refine Later.mk ?_
  intro aX p1 p2 aF aK aW ag af
  refine q09 (i:=0) (j:=14) (by kernel_rfl) rfl rfl ?_ ?_
  ·skip
   intro K hK
   go_simp
   refine hK.out _ _ (Or.inr (aF.alloc _)) ?_
   clear hK K
   have hn:=NI.new aF 38
   have hal:=(G.refl aX).alloc (.cells #[.bool false,.slice none 0 0] 38)
   have aT:=G.trans aF hal
   have df:=hid (aK.out.G hal)
   have bY:=hid (aW.out.G hal)
   have ah:aX.heap.size≠p1:=by have:=aK.out.2.1;omega
   have ak:aX.heap.size≠p2:=by have:=aW.out.2.1;omega
   generalize aX.heap.size=p0 at *
   generalize aX.alloc (.cells #[.bool false,.slice none 0 0] 38)=bC at *
   have eY:=hid hn
   have ae:Hid (p1≠p0):=ah.symm
   have aa:Hid (p0≠p1):=ah
   have aj:Hid (p2≠p0):=ak.symm
   have ai:Hid (p0≠p2):=ak
   clear hn hal aF aK aW ah ak
   refine q00 (l':=#[true,true,true,true,true,true,true,true,true,true,true,true,true,true,false,false,false]) (by kernel_rfl) ?_
   revert aj
   revert ae
   revert af
   revert ai
   revert ag
   revert aa
   revert bY
   revert df
   revert eY
   revert aT
   revert p2
   revert p1
   revert p0
   revert bC
   exact dB.out
  ·skip
   intro K hK
   go_simp
   have dh:Hid _:=q17 aX p2 0 b2 0 bx 2 0 ya xb KB (by omega) kM.out jT.out aW.out.2.1 (G.lt aF hby) (G.lt aF hbx) aW.out.2.2 (IntIs.G qB.out hby aF) (IntIs.G Bc.out hbx aF)
   go_wp2_with (go_at_call 49;refine Calls.mono (P:=Tryz.prog) dh.out ?_;intro e bC hx;obtain⟨rfl,aT,hl,-,hkp⟩:=SetTo.step aF aW.out hx)
   have bY:=hid hl
   have df:=hid (hkp _ _ af.out aK.out)
   refine hK.out _ _ (Or.inr aT) ?_
   clear hK K hx hl hkp dh aF aK aW
   refine q03 (i:=0) (by kernel_rfl) rfl ?_
   intro K hK
   go_simp
   refine hK.out _ _ (Or.inr (aT.alloc _)) ?_
   clear hK K
   have hn:=NI.new aT 38
   have hal:=(G.refl bC).alloc (.cells #[.bool false,.slice none 0 0] 38)
   have fJ:=G.trans aT hal
   have eZ:=hid (df.out.G hal)
   have fe:=hid (bY.out.G hal)
   have ah:bC.heap.size≠p1:=by have:=df.out.2.1;omega
   have ak:bC.heap.size≠p2:=by have:=bY.out.2.1;omega
   generalize bC.heap.size=p0 at *
   generalize bC.alloc (.cells #[.bool false,.slice none 0 0] 38)=dK at *
   have fo:=hid hn
   have ae:Hid (p1≠p0):=ah.symm
   have aa:Hid (p0≠p1):=ah
   have aj:Hid (p2≠p0):=ak.symm
   have ai:Hid (p0≠p2):=ak
   clear hn hal aT df bY ah ak
   refine q00 (l':=#[true,true,true,true,true,true,true,true,true,true,true,true,true,true,true,false,false]) (by kernel_rfl) ?_
   revert aj
   revert ae
   revert af
   revert ai
   revert ag
   revert aa
   revert fe
   revert eZ
   revert fo
   revert fJ
   revert p2
   revert p1
   revert p0
   revert dK
   exact dU.out
  refine Later.mk ?_
  intro aX p0 p1 aF bI aK aa ae
  refine q03 (i:=8) (by kernel_rfl) rfl ?_
  intro K hK
  go_simp
  refine hK.out _ _ (Or.inr (aF.alloc _)) ?_
  clear hK K
  have hn:=NI.new aF 38
  have hal:=(G.refl aX).alloc (.cells #[.bool false,.slice none 0 0] 38)
  have aT:=G.trans aF hal
  have eY:=hid (bI.out.G hal)
  have df:=hid (aK.out.G hal)
  have au:aX.heap.size≠p0:=by have:=bI.out.2.1;omega
  have ah:aX.heap.size≠p1:=by have:=aK.out.2.1;omega
  generalize aX.heap.size=p2 at *
  generalize aX.alloc (.cells #[.bool false,.slice none 0 0] 38)=bC at *
  have bY:=hid hn
  have ai:Hid (p0≠p2):=au.symm
  have aj:Hid (p2≠p0):=au
  have af:Hid (p1≠p2):=ah.symm
  have ag:Hid (p2≠p1):=ah
  clear hn hal aF bI aK au ah
  refine q00 (l':=#[true,true,true,true,true,true,true,true,true,true,true,true,true,true,false,false,false]) (by kernel_rfl) ?_
  revert aj
  revert ae
  revert af
  revert ai
  revert ag
  revert aa
  revert bY
  revert df
  revert eY
  revert aT
  revert p2
  revert p1
  revert p0
  revert bC
  exact dB.out
  refine Later.mk ?_
  intro aX p0 p1 p2 aF bI aK aW aa ag ai af ae aj
  refine q03 (i:=13) (by kernel_rfl) rfl ?_
  intro K hK
  go_simp
  go_wp2_with (go_at_call 50;refine Calls.mono (P:=Tryz.prog) (q23 aX bx xa xb gD (mo.out.G hbx aF)) ?_;rintro e bC ⟨rfl,hg⟩)
  refine hK.out _ _ (Or.inr (G.trans aF hg)) ?_
  clear hK K
  have aT:=G.trans aF hg
  have eY:=hid (bI.out.G hg)
  have df:=hid (aK.out.G hg)
  have bY:=hid (aW.out.G hg)
  clear hg aF bI aK aW
  refine q00 (l':=#[true,true,true,true,true,true,true,true,true,true,true,true,true,true,false,false,false]) (by kernel_rfl) ?_
  revert aj
  revert ae
  revert af
  revert ai
  revert ag
  revert aa
  revert bY
  revert df
  revert eY
  revert aT
  revert p2
  revert p1
  revert p0
  revert bC
  exact dB.out
  refine Later.mk ?_
  intro bC p0 p1 p2 aT eY df bY aa ag ai af ae aj
  refine q03 (i:=14) (by kernel_rfl) rfl ?_
  intro K hK
  go_simp
  have dh:Hid _:=q17 bC p2 0 b2 0 bx 2 0 ya xb KB (by omega) kM.out jT.out bY.out.2.1 (G.lt aT hby) (G.lt aT hbx) bY.out.2.2 (IntIs.G qB.out hby aT) (IntIs.G Bc.out hbx aT)
  go_wp2_with (go_at_call 49;refine Calls.mono (P:=Tryz.prog) dh.out ?_;intro e dK hx;obtain⟨rfl,fJ,hl,-,hkp⟩:=SetTo.step aT bY.out hx)
  have fe:=hid hl
  have fo:=hid (hkp _ _ ai.out eY.out)
  have eZ:=hid (hkp _ _ af.out df.out)
  refine hK.out _ _ (Or.inr fJ) ?_
  clear hK K hx hl hkp dh aT eY df bY
  refine q00 (l':=#[true,true,true,true,true,true,true,true,true,true,true,true,true,true,true,false,false]) (by kernel_rfl) ?_
  revert aj
  revert ae
  revert af
  revert ai
  revert ag
  revert aa
  revert fe
  revert eZ
  revert fo
  revert fJ
  revert p2
  revert p1
  revert p0
  revert dK
  exact dU.out
  refine Later.mk ?_
  intro dK p0 p1 p2 fJ fo eZ fe aa ag ai af ae aj
  refine q03 (i:=15) (by kernel_rfl) rfl ?_
  intro K hK
  go_simp
  have dh:Hid _:=qag dK p0 0 p1 0 p2 0 0 (xa*(yb:Int)) (ya*(xb:Int)) (2*KB) (by omega) ko.out ek.out fo.out.2.1 eZ.out.2.1 fe.out.2.1 fo.out.2.2 eZ.out.2.2 fe.out.2.2
  go_wp2_with (go_at_call 67;refine Calls.mono (P:=Tryz.prog) dh.out ?_;intro e cB hx;obtain⟨rfl,jX,hl,-,hkp⟩:=SetTo.step fJ fo.out hx)
  have jY:=hid hl
  have lU:=hid (hkp _ _ ae.out eZ.out)
  have lW:=hid (hkp _ _ aj.out fe.out)
  refine hK.out _ _ (Or.inl (by decide)) ?_
  clear hK K hx hl hkp dh fJ fo eZ fe
  refine q03 (i:=16) (by kernel_rfl) rfl ?_
  intro K hK
  go_simp
  refine hK.out _ _ (Or.inl (by decide)) ?_
  clear hK K
  refine q0n (by kernel_rfl) ?_ _
  revert aj
  revert ae
  revert af
  revert ai
  revert ag
  revert aa
  revert lW
  revert lU
  revert jY
  revert jX
  revert p2
  revert p1
  revert p0
  revert cB
  exact LX.out
 ·skip
  refine Later.mk ?_
  intro cB p0 p1 p2 jX jY lU lW aa ag ai af ae aj
  clear ae aj aa ag ai af
  have HS:=jY.out
  have hG:=jX
  clear jY lU lW jX
  have qG:Hid (NI w cB p0 (xa*(yb:Int)-ya*(xb:Int))):=HS
  clear HS
  go_wp2_with fail
  have hn0:=NI.new hG 38
  have hal:=(G.refl cB).alloc (.cells #[.bool false,.slice none 0 0] 38)
  have hG1:=G.trans hG hal
  have hs1:=qG.out.G hal
  have hne:p0≠cB.heap.size:=by have:=qG.out.2.1;omega
  generalize cB.heap.size=pd at *
  generalize cB.alloc (.cells #[.bool false,.slice none 0 0] 38)=v1 at *
  have ic:Hid (NI w v1 pd 0):=hn0
  have kr:Hid (NI w v1 p0 (xa*(yb:Int)-ya*(xb:Int))):=hs1
  clear hn0 hal hs1 hG qG
  refine Calls.mono (P:=Tryz.prog) (q23 v1 bx xa xb gD (mo.out.G hbx hG1)) ?_
  rintro e v2 ⟨rfl,hg2⟩
  have hG2:=G.trans hG1 hg2
  have ig:Hid (NI w v2 pd 0):=ic.out.G hg2
  have HS2:Hid (NI w v2 p0 (xa*(yb:Int)-ya*(xb:Int))):=kr.out.G hg2
  clear hG1 hg2 ic kr
  go_wp2_with fail
  refine Calls.mono (P:=Tryz.prog) (q23 v2 b2 ya yb dD (jc.out.G hby hG2)) ?_
  rintro e v3 ⟨rfl,hg3⟩
  have hG3:=G.trans hG2 hg3
  have rR:Hid (NI w v3 pd 0):=ig.out.G hg3
  have mI:Hid (NI w v3 p0 (xa*(yb:Int)-ya*(xb:Int))):=HS2.out.G hg3
  clear hG2 hg3 ig HS2
  have HM:Hid _:=q17 v3 pd 0 bx 2 b2 2 0 xb yb KB (by omega) jT.out gV.out rR.out.2.1 (G.lt hG3 hbx) (G.lt hG3 hby) rR.out.2.2 (IntIs.G Bc.out hbx hG3) (IntIs.G Bu.out hby hG3)
  go_wp2_with fail
  refine Calls.mono (P:=Tryz.prog) HM.out ?_
  intro e v4 hs
  obtain⟨rfl,hG4,jS,-,hkp⟩:=SetTo.step hG3 rR.out hs
  have qW:Hid (NI w v4 p0 (xa*(yb:Int)-ya*(xb:Int))):=hkp p0 _ hne mI.out
  rw[show (xb:Int)*yb=((xb*yb:Nat):Int) from by push_cast;rfl] at jS
  have wu:Hid (NI w v4 pd ((xb*yb:Nat):Int)):=jS
  clear hs hkp jS HM rR mI hG3 hne
  have HF:Hid _:=q0N v4 bz p0 0 pd 0 s1 s2 (xa*(yb:Int)-ya*(xb:Int)) (xb*yb) (2*KB+1) (by omega) pF.out HD2.out HD0.out (G.lt hG4 hbz) qW.out.2.1 wu.out.2.1 (Bv.out.G hbz hG4) qW.out.2.2 wu.out.2.2
  go_wp2_with fail
  refine Calls.mono (P:=Tryz.prog) HF.out ?_
  intro e v5 hs
  obtain⟨rfl,k1,k2⟩:=NormTo.after hG4 hs
  have jb:Hid _:=k2
  clear hs k2 HF qW wu
  go_wp2_with fail
  go_ret
  exact⟨rfl,k1,jb.out⟩
/-- den: of a new Rat it is a new 1. -/
theorem qac (w:World) (b:Nat) (xb:Nat) (hxb:xb=1) (h:RatIs w b 0 0):
  Calls Tryz.prog 50 #[.pointer (some ⟨b,0,none⟩)] w (RetI w (xb:Int)):=by
 obtain⟨-,n,v,a,⟨c1,c2,-,-⟩,⟨l,hl,hcl,hlv⟩,h1,-⟩:=h
 have ha:=q1J h1
 obtain⟨p,c,rfl,-,-⟩:=q0p hl
 have hl0:l.length=0:=by
  have h0:val l=0:=by rw[hlv];omega
  rw[(q0V hcl).1 h0]
  rfl
 rw[hl0] at c2
 have HN:Hid _:=q2a w (xb:Int) ⟨by omega,by omega⟩
 rw[hxb] at HN ⊢
 clear hl hcl hlv h1 ha hl0
 go_enter Tryz.func50,Tryz.ntmps50
 go_wp2_with fail
 refine Calls.mono (P:=Tryz.prog) HN.out ?_
 rintro e w2 ⟨p,rfl,k1,k2,k3,k4⟩
 have HK:Hid _:=k4
 clear k4 HN
 go_wp2_with fail
 go_ret
 exact⟨p,rfl,k1,k2,k3,HK.out⟩
/-- A Rat, laid or new (then it is 0). -/
def RatV (w:World) (b:Nat) (xa:Int) (xb:Nat):Prop:=RatIs w b xa (xb:Int)∨(xa=0∧xb=1∧RatIs w b 0 0)
theorem RatV.G {w w':World} {b:Nat} {xa:Int} {xb:Nat} (h:RatV w b xa xb) (hb:b<w.heap.size) (g:G w w'):RatV w' b xa xb:=by
 rcases h with h|⟨h1,h2,h⟩
 ·exact Or.inl (RatIs.G h hb g)
 ·exact Or.inr ⟨h1,h2,RatIs.G h hb g⟩
theorem RatV.num {w:World} {b:Nat} {xa:Int} {xb:Nat} (h:RatV w b xa xb):IntIs w b 0 xa:=by
 rcases h with h|⟨h1,-,h⟩
 ·exact h.1
 ·rw[h1];exact h.1
/-- A lower part: in the Rat itself, or new. -/
def DI (w0 w:World) (p o:Nat) (s:Int):Prop:=(p<w0.heap.size∧IntIs w0 p o s)∨(o=0∧NI w0 w p s)
theorem DI.G {w0 w w':World} {p o:Nat} {s:Int} (h:DI w0 w p o s) (g:Go.Proofs.YtljkfjjchkehaaaGreatDoor.G w w'):DI w0 w' p o s:=by
 rcases h with h|⟨h1,h2⟩
 ·exact Or.inl h
 ·exact Or.inr ⟨h1,h2.G g⟩
theorem DI.is {w0 w:World} {p o:Nat} {s:Int} (h:DI w0 w p o s) (g:Go.Proofs.YtljkfjjchkehaaaGreatDoor.G w0 w):p<w.heap.size∧IntIs w p o s:=by
 rcases h with ⟨h1,h2⟩|⟨rfl,h2⟩
 ·exact⟨G.lt g h1,IntIs.G h2 h1 g⟩
 ·exact h2.2
theorem DI.keep {w0 w w':World} {p o:Nat} {s:Int} (h:DI w0 w p o s) (k:NI w0 w p s→NI w0 w' p s):DI w0 w' p o s:=by
 rcases h with h|⟨h1,h2⟩
 ·exact Or.inl h
 ·exact Or.inr ⟨h1,k h2⟩
theorem q0T (w0 w:World) (g:G w0 w) (b:Nat) (xa:Int) (xb:Nat) (hxb:0<xb) (hb:b<w0.heap.size) (h:RatV w0 b xa xb):
  Calls Tryz.prog 50 #[.pointer (some ⟨b,0,none⟩)] w fun e w'=>∃ p o,e= .returned (.pointer (some ⟨p,o,none⟩))∧G w w'∧DI w0 w' p o (xb:Int)∧(p<w0.heap.size∨w.heap.size≤p):=by
 rcases h with h|⟨-,h2,h⟩
 ·refine Calls.mono (P:=Tryz.prog) (q23 w b xa xb (by omega) (h.G hb g)) ?_
  rintro e w' ⟨rfl,g'⟩
  exact⟨b,2,rfl,g',Or.inl ⟨hb,h.2⟩,Or.inl hb⟩
 ·refine Calls.mono (P:=Tryz.prog) (qac w b xb h2 (h.G hb g)) ?_
  rintro e w' ⟨p,rfl,g',k1,k2,k3⟩
  exact⟨p,0,rfl,g',Or.inr ⟨rfl,Nat.le_trans g.size k1,k2,k3⟩,Or.inr k1⟩
set_option maxRecDepth 10000 in
set_option maxHeartbeats 8000000 in
theorem qaB (w:World) (bz bx b2:Nat) (s1 s2 xa ya:Int) (xb yb:Nat) (KB:Nat) (hK:KB≤100000) (hx2:xa.natAbs<2^(32*KB)) (hy2:ya.natAbs<2^(32*KB)) (gy:xb<2^(32*KB)) (gU:yb<2^(32*KB)) (hxb:0<xb) (hyb:0<yb)
  (hbz:bz<w.heap.size) (hbx:bx<w.heap.size) (hby:b2<w.heap.size) (hz:RatIs w bz s1 s2) (hx:RatV w bx xa xb) (hy:RatV w b2 ya yb):
  Calls Tryz.prog 29 #[.pointer (some ⟨bz,0,none⟩),.pointer (some ⟨bx,0,none⟩),.pointer (some ⟨b2,0,none⟩)] w (NormTo w bz (Int.tdiv (xa*(yb:Int)+ya*(xb:Int)) (Nat.gcd (xa*(yb:Int)+ya*(xb:Int)).natAbs (xb*yb):Nat)) (xb*yb/Nat.gcd (xa*(yb:Int)+ya*(xb:Int)).natAbs (xb*yb))):=by
 have iE:Hid (xa.natAbs<2^(32*KB)):=hx2
 have kM:Hid (ya.natAbs<2^(32*KB)):=hy2
 have jT:Hid ((xb:Int).natAbs<2^(32*KB)):=by show (xb:Int).natAbs<2^(32*KB);rw[Int.natAbs_natCast];exact gy
 have gV:Hid ((yb:Int).natAbs<2^(32*KB)):=by show (yb:Int).natAbs<2^(32*KB);rw[Int.natAbs_natCast];exact gU
 have HX0:Hid (IntIs w bx 0 xa):=hx.num
 have qB:Hid (IntIs w b2 0 ya):=hy.num
 have mo:Hid (RatV w bx xa xb):=hx
 have jc:Hid (RatV w b2 ya yb):=hy
 have Bv:Hid (RatIs w bz s1 s2):=hz
 have gD:0<xb:=hxb
 have dD:0<yb:=hyb
 have rQ:32*(2*KB)=32*KB+32*KB:=by omega
 have hn1:(xa*(yb:Int)).natAbs<2^(32*(2*KB)):=by
  rw[Int.natAbs_mul,Int.natAbs_natCast,rQ,Nat.pow_add]
  exact Nat.mul_lt_mul'' hx2 gU
 have hn2:(ya*(xb:Int)).natAbs<2^(32*(2*KB)):=by
  rw[Int.natAbs_mul,Int.natAbs_natCast,rQ,Nat.pow_add]
  exact Nat.mul_lt_mul'' hy2 gy
 have hd2:xb*yb<2^(32*(2*KB)):=by
  rw[rQ,Nat.pow_add]
  exact Nat.mul_lt_mul'' gy gU
 have hup:2^(32*(2*KB))*2≤2^(32*(2*KB+1)):=by rw[← Nat.pow_succ];exact Nat.pow_le_pow_right (by omega) (by omega)
 have ko:Hid ((xa*(yb:Int)).natAbs<2^(32*(2*KB))):=hn1
 have ek:Hid ((ya*(xb:Int)).natAbs<2^(32*(2*KB))):=hn2
 have pF:Hid ((xa*(yb:Int)+ya*(xb:Int)).natAbs<2^(32*(2*KB+1))):=by
  show (xa*(yb:Int)+ya*(xb:Int)).natAbs<2^(32*(2*KB+1))
  have:=Int.natAbs_add_le (xa*(yb:Int)) (ya*(xb:Int))
  omega
 have HD2:Hid (xb*yb<2^(32*(2*KB+1))):=by show xb*yb<2^(32*(2*KB+1));omega
 have HD0:Hid (0<xb*yb):=Nat.mul_pos hxb hyb
 clear hx hy hz hx2 hy2 gy gU hxb hyb rQ hn1 hn2 hd2 hup
 go_enter Tryz.func29,Tryz.ntmps29
 go_wp2_with fail
 apply share
 ·intro LX
  refine q0P 15 (G w) (by kernel_rfl) (by first|exact(G.refl _).drew|exact G.drew (by assumption)) ?_
  intro bU
  refine q02 2 (v:= ?_) rfl (by kernel_rfl) (fun _ _ _ h=>h) rfl ?_ ‹_› ?_
  rotate_left
  ·intro wq hwq
   first|(go_simp;done)|(go_simp;with_reducible rfl)
  try simp only[aput,List.set]
  refine q02 3 (v:= ?_) rfl (by kernel_rfl) (fun _ _ _ h=>h) rfl ?_ ‹_› ?_
  rotate_left
  ·intro wq hwq
   first|(go_simp;done)|(go_simp;with_reducible rfl)
  try simp only[aput,List.set]
  refine q02 4 (v:= ?_) rfl (by kernel_rfl) (fun _ _ _ h=>h) rfl ?_ ‹_› ?_
  rotate_left
  ·intro wq hwq
   first|(go_simp;done)|(go_simp;with_reducible rfl)
  try simp only[aput,List.set]
  refine q02 5 (v:= ?_) rfl (by kernel_rfl) (fun _ _ _ h=>h) rfl ?_ ‹_› ?_
  rotate_left
  ·intro wq hwq
   first|(go_simp;done)|(go_simp;with_reducible rfl)
  try simp only[aput,List.set]
  refine q02 9 (v:= ?_) rfl (by kernel_rfl) (fun _ _ _ h=>h) rfl ?_ ‹_› ?_
  rotate_left
  ·intro wq hwq
   first|(go_simp;done)|(go_simp;with_reducible rfl)
  try simp only[aput,List.set]
  refine q02 10 (v:= ?_) rfl (by kernel_rfl) (fun _ _ _ h=>h) rfl ?_ ‹_› ?_
  rotate_left
  ·intro wq hwq
   first|(go_simp;done)|(go_simp;with_reducible rfl)
  try simp only[aput,List.set]
  refine q02 11 (v:= ?_) rfl (by kernel_rfl) (fun _ _ _ h=>h) rfl ?_ ‹_› ?_
  rotate_left
  ·intro wq hwq
   first|(go_simp;done)|(go_simp;with_reducible rfl)
  try simp only[aput,List.set]
  refine q02 12 (v:= ?_) rfl (by kernel_rfl) (fun _ _ _ h=>h) rfl ?_ ‹_› ?_
  rotate_left
  ·intro wq hwq
   first|(go_simp;done)|(go_simp;with_reducible rfl)
  try simp only[aput,List.set]
  show q0A _ _ _ _ _ _ _ _ _ w.drew
  have hS5:=bU
  generalize w.drew=w5 at *
  clear bU
  apply share
  intro dU
  apply share
  intro dB
  apply share
  intro dX
  apply share
  intro gF
  apply share
  intro dG
  apply share
  intro dY
  apply share
  intro iX
  apply share
  intro eX
  apply share
  intro iY
  apply share
  intro iZ
  apply share
  intro j3
  apply share
  intro j4
  apply share
  intro pG
  apply share
  intro pI
  apply share
  intro pJ
  apply share
  intro kN
  apply share
  intro pK
  apply share
  intro pM
  refine q3b (i:=0) (j:=1) (l:=6) (m:=8) (by kernel_rfl) rfl rfl rfl rfl ?_ ?_ ?_ ?_
  ·skip
   intro K hK
   go_simp
   refine hK.out _ _ (Or.inr (hS5.alloc _)) ?_
   clear hK K
   have hn:=NI.new hS5 38
   have hal:=(G.refl w5).alloc (.cells #[.bool false,.slice none 0 0] 38)
   have aJ:=G.trans hS5 hal
   generalize w5.heap.size=p0 at *
   generalize w5.alloc (.cells #[.bool false,.slice none 0 0] 38)=w6 at *
   have jU:=hid hn
   clear hn hal
   refine q0l (i:=1) (j:=6) (l:=8) (by kernel_rfl) rfl rfl rfl ?_ ?_ ?_
   ·skip
    intro K hK
    go_simp
    refine hK.out _ _ (Or.inr (aJ.alloc _)) ?_
    clear hK K
    have hn:=NI.new aJ 38
    have hal:=(G.refl w6).alloc (.cells #[.bool false,.slice none 0 0] 38)
    have aC:=G.trans aJ hal
    have bL:=hid (jU.out.G hal)
    have au:w6.heap.size≠p0:=by have:=jU.out.2.1;omega
    generalize w6.heap.size=p1 at *
    generalize w6.alloc (.cells #[.bool false,.slice none 0 0] 38)=w7 at *
    have bg:=hid hn
    have aa:Hid (p0≠p1):=au.symm
    have ae:Hid (p1≠p0):=au
    clear hn hal aJ jU au
    refine q00 (l':=#[true,true,true,true,true,true,false,false,false,true,true,true,true,false,false,false,false]) (by kernel_rfl) ?_
    revert ae
    revert aa
    revert bg
    revert bL
    revert aC
    revert p1
    revert p0
    revert w7
    exact pG.out
   ·skip
    intro K hK
    go_simp
    go_wp2_with (go_at_call 50;refine Calls.mono (P:=Tryz.prog) (q0T w w6 aJ b2 ya yb dD hby jc.out) ?_;intro e w7 hx;obtain⟨p4,o4,rfl,hg,h72,fK⟩:=hx)
    refine hK.out _ _ (Or.inr (G.trans aJ hg)) ?_
    clear hK K
    have aC:=G.trans aJ hg
    have HD7:=hid h72
    have au:p4≠p0:=by have h1:=jU.out.1;have h2:=jU.out.2.1;omega
    have bL:=hid (jU.out.G hg)
    have az:Hid (p4≠p0):=au
    clear hg h72 fK aJ jU au
    refine q00 (l':=#[true,false,true,true,true,true,true,false,false,true,true,true,true,false,false,false,false]) (by kernel_rfl) ?_
    revert az
    revert HD7
    revert bL
    revert aC
    revert o4
    revert p4
    revert p0
    revert w7
    exact pJ.out
   ·skip
    intro K hK
    go_simp
    refine hK.out _ _ (Or.inr (aJ.alloc _)) ?_
    clear hK K
    have hn:=NI.new aJ 38
    have hal:=(G.refl w6).alloc (.cells #[.bool false,.slice none 0 0] 38)
    have aC:=G.trans aJ hal
    have bL:=hid (jU.out.G hal)
    have au:w6.heap.size≠p0:=by have:=jU.out.2.1;omega
    generalize w6.heap.size=p2 at *
    generalize w6.alloc (.cells #[.bool false,.slice none 0 0] 38)=w7 at *
    have bM:=hid hn
    have ai:Hid (p0≠p2):=au.symm
    have aj:Hid (p2≠p0):=au
    clear hn hal aJ jU au
    refine q00 (l':=#[true,false,true,true,true,true,false,false,true,true,true,true,true,false,false,false,false]) (by kernel_rfl) ?_
    revert aj
    revert ai
    revert bM
    revert bL
    revert aC
    revert p2
    revert p0
    revert w7
    exact pI.out
  ·skip
   intro K hK
   go_simp
   refine hK.out _ _ (Or.inr (hS5.alloc _)) ?_
   clear hK K
   have hn:=NI.new hS5 38
   have hal:=(G.refl w5).alloc (.cells #[.bool false,.slice none 0 0] 38)
   have aJ:=G.trans hS5 hal
   generalize w5.heap.size=p1 at *
   generalize w5.alloc (.cells #[.bool false,.slice none 0 0] 38)=w6 at *
   have jV:=hid hn
   clear hn hal
   refine q0l (i:=0) (j:=6) (l:=8) (by kernel_rfl) rfl rfl rfl ?_ ?_ ?_
   ·skip
    intro K hK
    go_simp
    refine hK.out _ _ (Or.inr (aJ.alloc _)) ?_
    clear hK K
    have hn:=NI.new aJ 38
    have hal:=(G.refl w6).alloc (.cells #[.bool false,.slice none 0 0] 38)
    have aC:=G.trans aJ hal
    have bg:=hid (jV.out.G hal)
    have ah:w6.heap.size≠p1:=by have:=jV.out.2.1;omega
    generalize w6.heap.size=p0 at *
    generalize w6.alloc (.cells #[.bool false,.slice none 0 0] 38)=w7 at *
    have bL:=hid hn
    have ae:Hid (p1≠p0):=ah.symm
    have aa:Hid (p0≠p1):=ah
    clear hn hal aJ jV ah
    refine q00 (l':=#[true,true,true,true,true,true,false,false,false,true,true,true,true,false,false,false,false]) (by kernel_rfl) ?_
    revert ae
    revert aa
    revert bg
    revert bL
    revert aC
    revert p1
    revert p0
    revert w7
    exact pG.out
   ·skip
    intro K hK
    go_simp
    go_wp2_with (go_at_call 50;refine Calls.mono (P:=Tryz.prog) (q0T w w6 aJ b2 ya yb dD hby jc.out) ?_;intro e w7 hx;obtain⟨p4,o4,rfl,hg,h72,fK⟩:=hx)
    refine hK.out _ _ (Or.inr (G.trans aJ hg)) ?_
    clear hK K
    have aC:=G.trans aJ hg
    have HD7:=hid h72
    have ah:p4≠p1:=by have h1:=jV.out.1;have h2:=jV.out.2.1;omega
    have bg:=hid (jV.out.G hg)
    have av:Hid (p4≠p1):=ah
    clear hg h72 fK aJ jV ah
    refine q00 (l':=#[false,true,true,true,true,true,true,false,false,true,true,true,true,false,false,false,false]) (by kernel_rfl) ?_
    revert av
    revert HD7
    revert bg
    revert aC
    revert o4
    revert p4
    revert p1
    revert w7
    exact pK.out
   ·skip
    intro K hK
    go_simp
    refine hK.out _ _ (Or.inr (aJ.alloc _)) ?_
    clear hK K
    have hn:=NI.new aJ 38
    have hal:=(G.refl w6).alloc (.cells #[.bool false,.slice none 0 0] 38)
    have aC:=G.trans aJ hal
    have bg:=hid (jV.out.G hal)
    have ah:w6.heap.size≠p1:=by have:=jV.out.2.1;omega
    generalize w6.heap.size=p2 at *
    generalize w6.alloc (.cells #[.bool false,.slice none 0 0] 38)=w7 at *
    have bM:=hid hn
    have af:Hid (p1≠p2):=ah.symm
    have ag:Hid (p2≠p1):=ah
    clear hn hal aJ jV ah
    refine q00 (l':=#[false,true,true,true,true,true,false,false,true,true,true,true,true,false,false,false,false]) (by kernel_rfl) ?_
    revert af
    revert ag
    revert bM
    revert bg
    revert aC
    revert p2
    revert p1
    revert w7
    exact kN.out
  ·skip
   intro K hK
   go_simp
   go_wp2_with (go_at_call 50;refine Calls.mono (P:=Tryz.prog) (q0T w w5 hS5 b2 ya yb dD hby jc.out) ?_;intro e w6 hx;obtain⟨p4,o4,rfl,hg,h72,fK⟩:=hx)
   refine hK.out _ _ (Or.inr (G.trans hS5 hg)) ?_
   clear hK K
   have aJ:=G.trans hS5 hg
   have HD6:=hid h72
   clear hg h72 fK
   refine q0l (i:=0) (j:=1) (l:=8) (by kernel_rfl) rfl rfl rfl ?_ ?_ ?_
   ·skip
    intro K hK
    go_simp
    refine hK.out _ _ (Or.inr (aJ.alloc _)) ?_
    clear hK K
    have hn:=NI.new aJ 38
    have hal:=(G.refl w6).alloc (.cells #[.bool false,.slice none 0 0] 38)
    have aC:=G.trans aJ hal
    have HD7:=hid (HD6.out.G hal)
    have aB:w6.heap.size≠p4:=by have:=(HD6.out.is aJ).1;omega
    generalize w6.heap.size=p0 at *
    generalize w6.alloc (.cells #[.bool false,.slice none 0 0] 38)=w7 at *
    have bL:=hid hn
    have az:Hid (p4≠p0):=aB.symm
    clear hn hal aJ HD6 aB
    refine q00 (l':=#[true,false,true,true,true,true,true,false,false,true,true,true,true,false,false,false,false]) (by kernel_rfl) ?_
    revert az
    revert HD7
    revert bL
    revert aC
    revert o4
    revert p4
    revert p0
    revert w7
    exact pJ.out
   ·skip
    intro K hK
    go_simp
    refine hK.out _ _ (Or.inr (aJ.alloc _)) ?_
    clear hK K
    have hn:=NI.new aJ 38
    have hal:=(G.refl w6).alloc (.cells #[.bool false,.slice none 0 0] 38)
    have aC:=G.trans aJ hal
    have HD7:=hid (HD6.out.G hal)
    have aB:w6.heap.size≠p4:=by have:=(HD6.out.is aJ).1;omega
    generalize w6.heap.size=p1 at *
    generalize w6.alloc (.cells #[.bool false,.slice none 0 0] 38)=w7 at *
    have bg:=hid hn
    have av:Hid (p4≠p1):=aB.symm
    clear hn hal aJ HD6 aB
    refine q00 (l':=#[false,true,true,true,true,true,true,false,false,true,true,true,true,false,false,false,false]) (by kernel_rfl) ?_
    revert av
    revert HD7
    revert bg
    revert aC
    revert o4
    revert p4
    revert p1
    revert w7
    exact pK.out
   ·skip
    intro K hK
    go_simp
    refine hK.out _ _ (Or.inr (aJ.alloc _)) ?_
    clear hK K
    have hn:=NI.new aJ 38
    have hal:=(G.refl w6).alloc (.cells #[.bool false,.slice none 0 0] 38)
    have aC:=G.trans aJ hal
    have HD7:=hid (HD6.out.G hal)
    have aB:w6.heap.size≠p4:=by have:=(HD6.out.is aJ).1;omega
    generalize w6.heap.size=p2 at *
    generalize w6.alloc (.cells #[.bool false,.slice none 0 0] 38)=w7 at *
    have bM:=hid hn
    have aA:Hid (p4≠p2):=aB.symm
    clear hn hal aJ HD6 aB
    refine q00 (l':=#[false,false,true,true,true,true,true,false,true,true,true,true,true,false,false,false,false]) (by kernel_rfl) ?_
    revert aA
    revert bM
    revert HD7
    revert aC
    revert p2
    revert o4
    revert p4
    revert w7
    exact pM.out
  ·skip
   intro K hK
   go_simp
   refine hK.out _ _ (Or.inr (hS5.alloc _)) ?_
   clear hK K
   have hn:=NI.new hS5 38
   have hal:=(G.refl w5).alloc (.cells #[.bool false,.slice none 0 0] 38)
   have aJ:=G.trans hS5 hal
   generalize w5.heap.size=p2 at *
   generalize w5.alloc (.cells #[.bool false,.slice none 0 0] 38)=w6 at *
   have jW:=hid hn
   clear hn hal
   refine q0l (i:=0) (j:=1) (l:=6) (by kernel_rfl) rfl rfl rfl ?_ ?_ ?_
   ·skip
    intro K hK
    go_simp
    refine hK.out _ _ (Or.inr (aJ.alloc _)) ?_
    clear hK K
    have hn:=NI.new aJ 38
    have hal:=(G.refl w6).alloc (.cells #[.bool false,.slice none 0 0] 38)
    have aC:=G.trans aJ hal
    have bM:=hid (jW.out.G hal)
    have ak:w6.heap.size≠p2:=by have:=jW.out.2.1;omega
    generalize w6.heap.size=p0 at *
    generalize w6.alloc (.cells #[.bool false,.slice none 0 0] 38)=w7 at *
    have bL:=hid hn
    have aj:Hid (p2≠p0):=ak.symm
    have ai:Hid (p0≠p2):=ak
    clear hn hal aJ jW ak
    refine q00 (l':=#[true,false,true,true,true,true,false,false,true,true,true,true,true,false,false,false,false]) (by kernel_rfl) ?_
    revert aj
    revert ai
    revert bM
    revert bL
    revert aC
    revert p2
    revert p0
    revert w7
    exact pI.out
   ·skip
    intro K hK
    go_simp
    refine hK.out _ _ (Or.inr (aJ.alloc _)) ?_
    clear hK K
    have hn:=NI.new aJ 38
    have hal:=(G.refl w6).alloc (.cells #[.bool false,.slice none 0 0] 38)
    have aC:=G.trans aJ hal
    have bM:=hid (jW.out.G hal)
    have ak:w6.heap.size≠p2:=by have:=jW.out.2.1;omega
    generalize w6.heap.size=p1 at *
    generalize w6.alloc (.cells #[.bool false,.slice none 0 0] 38)=w7 at *
    have bg:=hid hn
    have ag:Hid (p2≠p1):=ak.symm
    have af:Hid (p1≠p2):=ak
    clear hn hal aJ jW ak
    refine q00 (l':=#[false,true,true,true,true,true,false,false,true,true,true,true,true,false,false,false,false]) (by kernel_rfl) ?_
    revert af
    revert ag
    revert bM
    revert bg
    revert aC
    revert p2
    revert p1
    revert w7
    exact kN.out
   ·skip
    intro K hK
    go_simp
    go_wp2_with (go_at_call 50;refine Calls.mono (P:=Tryz.prog) (q0T w w6 aJ b2 ya yb dD hby jc.out) ?_;intro e w7 hx;obtain⟨p4,o4,rfl,hg,h72,fK⟩:=hx)
    refine hK.out _ _ (Or.inr (G.trans aJ hg)) ?_
    clear hK K
    have aC:=G.trans aJ hg
    have HD7:=hid h72
    have ak:p4≠p2:=by have h1:=jW.out.1;have h2:=jW.out.2.1;omega
    have bM:=hid (jW.out.G hg)
    have aA:Hid (p4≠p2):=ak
    clear hg h72 fK aJ jW ak
    refine q00 (l':=#[false,false,true,true,true,true,true,false,true,true,true,true,true,false,false,false,false]) (by kernel_rfl) ?_
    revert aA
    revert bM
    revert HD7
    revert aC
    revert p2
    revert o4
    revert p4
    revert w7
    exact pM.out
  refine Later.mk ?_
  intro w7 p4 o4 p2 aC HD7 bM aA
  refine q09 (i:=0) (j:=1) (by kernel_rfl) rfl rfl ?_ ?_
  ·skip
   intro K hK
   go_simp
   refine hK.out _ _ (Or.inr (aC.alloc _)) ?_
   clear hK K
   have hn:=NI.new aC 38
   have hal:=(G.refl w7).alloc (.cells #[.bool false,.slice none 0 0] 38)
   have aG:=G.trans aC hal
   have cu:=hid (HD7.out.G hal)
   have bV:=hid (bM.out.G hal)
   have aB:w7.heap.size≠p4:=by have:=(HD7.out.is aC).1;omega
   have ak:w7.heap.size≠p2:=by have:=bM.out.2.1;omega
   generalize w7.heap.size=p0 at *
   generalize w7.alloc (.cells #[.bool false,.slice none 0 0] 38)=w8 at *
   have bW:=hid hn
   have az:Hid (p4≠p0):=aB.symm
   have aj:Hid (p2≠p0):=ak.symm
   have ai:Hid (p0≠p2):=ak
   clear hn hal aC HD7 bM aB ak
   refine q00 (l':=#[true,false,true,true,true,true,true,false,true,true,true,true,true,false,false,false,false]) (by kernel_rfl) ?_
   revert aj
   revert az
   revert aA
   revert ai
   revert bV
   revert cu
   revert bW
   revert aG
   revert p2
   revert o4
   revert p4
   revert p0
   revert w8
   exact j3.out
  ·skip
   intro K hK
   go_simp
   refine hK.out _ _ (Or.inr (aC.alloc _)) ?_
   clear hK K
   have hn:=NI.new aC 38
   have hal:=(G.refl w7).alloc (.cells #[.bool false,.slice none 0 0] 38)
   have aG:=G.trans aC hal
   have cu:=hid (HD7.out.G hal)
   have bV:=hid (bM.out.G hal)
   have aB:w7.heap.size≠p4:=by have:=(HD7.out.is aC).1;omega
   have ak:w7.heap.size≠p2:=by have:=bM.out.2.1;omega
   generalize w7.heap.size=p1 at *
   generalize w7.alloc (.cells #[.bool false,.slice none 0 0] 38)=w8 at *
   have aN:=hid hn
   have av:Hid (p4≠p1):=aB.symm
   have ag:Hid (p2≠p1):=ak.symm
   have af:Hid (p1≠p2):=ak
   clear hn hal aC HD7 bM aB ak
   refine q00 (l':=#[false,true,true,true,true,true,true,false,true,true,true,true,true,false,false,false,false]) (by kernel_rfl) ?_
   revert aA
   revert af
   revert ag
   revert av
   revert bV
   revert cu
   revert aN
   revert aG
   revert p2
   revert o4
   revert p4
   revert p1
   revert w8
   exact j4.out
  refine Later.mk ?_
  intro w7 p1 p4 o4 aC bg HD7 av
  refine q0l (i:=0) (j:=7) (l:=8) (by kernel_rfl) rfl rfl rfl ?_ ?_ ?_
  ·skip
   intro K hK
   go_simp
   refine hK.out _ _ (Or.inr (aC.alloc _)) ?_
   clear hK K
   have hn:=NI.new aC 38
   have hal:=(G.refl w7).alloc (.cells #[.bool false,.slice none 0 0] 38)
   have aG:=G.trans aC hal
   have aN:=hid (bg.out.G hal)
   have cu:=hid (HD7.out.G hal)
   have ah:w7.heap.size≠p1:=by have:=bg.out.2.1;omega
   have aB:w7.heap.size≠p4:=by have:=(HD7.out.is aC).1;omega
   generalize w7.heap.size=p0 at *
   generalize w7.alloc (.cells #[.bool false,.slice none 0 0] 38)=w8 at *
   have bW:=hid hn
   have ae:Hid (p1≠p0):=ah.symm
   have aa:Hid (p0≠p1):=ah
   have az:Hid (p4≠p0):=aB.symm
   clear hn hal aC bg HD7 ah aB
   refine q00 (l':=#[true,true,true,true,true,true,true,false,false,true,true,true,true,false,false,false,false]) (by kernel_rfl) ?_
   revert az
   revert ae
   revert av
   revert aa
   revert cu
   revert aN
   revert bW
   revert aG
   revert o4
   revert p4
   revert p1
   revert p0
   revert w8
   exact iZ.out
  ·skip
   intro K hK
   go_simp
   have dh:Hid _:=q17 w7 p1 0 bx 0 p4 o4 0 xa yb KB (by omega) iE.out gV.out bg.out.2.1 (G.lt aC hbx) (HD7.out.is aC).1 bg.out.2.2 (IntIs.G HX0.out hbx aC) (HD7.out.is aC).2
   go_wp2_with (go_at_call 49;refine Calls.mono (P:=Tryz.prog) dh.out ?_;intro e w8 hx;obtain⟨rfl,aG,hl,-,hkp⟩:=SetTo.step aC bg.out hx)
   have aN:=hid hl
   have cu:=hid (DI.keep HD7.out (hkp _ _ av.out))
   refine hK.out _ _ (Or.inr aG) ?_
   clear hK K hx hl hkp dh aC bg HD7
   refine q0l (i:=0) (j:=8) (l:=13) (by kernel_rfl) rfl rfl rfl ?_ ?_ ?_
   ·skip
    intro K hK
    go_simp
    refine hK.out _ _ (Or.inr (aG.alloc _)) ?_
    clear hK K
    have hn:=NI.new aG 38
    have hal:=(G.refl w8).alloc (.cells #[.bool false,.slice none 0 0] 38)
    have aI:=G.trans aG hal
    have aY:=hid (aN.out.G hal)
    have cK:=hid (cu.out.G hal)
    have ah:w8.heap.size≠p1:=by have:=aN.out.2.1;omega
    have aB:w8.heap.size≠p4:=by have:=(cu.out.is aG).1;omega
    generalize w8.heap.size=p0 at *
    generalize w8.alloc (.cells #[.bool false,.slice none 0 0] 38)=w9 at *
    have dI:=hid hn
    have ae:Hid (p1≠p0):=ah.symm
    have aa:Hid (p0≠p1):=ah
    have az:Hid (p4≠p0):=aB.symm
    clear hn hal aG aN cu ah aB
    refine q00 (l':=#[true,true,true,true,true,true,true,true,false,true,true,true,true,false,false,false,false]) (by kernel_rfl) ?_
    revert az
    revert ae
    revert av
    revert aa
    revert cK
    revert aY
    revert dI
    revert aI
    revert o4
    revert p4
    revert p1
    revert p0
    revert w9
    exact iX.out
   ·skip
    intro K hK
    go_simp
    refine hK.out _ _ (Or.inr (aG.alloc _)) ?_
    clear hK K
    have hn:=NI.new aG 38
    have hal:=(G.refl w8).alloc (.cells #[.bool false,.slice none 0 0] 38)
    have aI:=G.trans aG hal
    have aY:=hid (aN.out.G hal)
    have cK:=hid (cu.out.G hal)
    have ah:w8.heap.size≠p1:=by have:=aN.out.2.1;omega
    have aB:w8.heap.size≠p4:=by have:=(cu.out.is aG).1;omega
    generalize w8.heap.size=p2 at *
    generalize w8.alloc (.cells #[.bool false,.slice none 0 0] 38)=w9 at *
    have dJ:=hid hn
    have af:Hid (p1≠p2):=ah.symm
    have ag:Hid (p2≠p1):=ah
    have aA:Hid (p4≠p2):=aB.symm
    clear hn hal aG aN cu ah aB
    refine q00 (l':=#[false,true,true,true,true,true,true,true,true,true,true,true,true,false,false,false,false]) (by kernel_rfl) ?_
    revert aA
    revert af
    revert ag
    revert av
    revert dJ
    revert cK
    revert aY
    revert aI
    revert p2
    revert o4
    revert p4
    revert p1
    revert w9
    exact eX.out
   ·skip
    intro K hK
    go_simp
    go_wp2_with (go_at_call 50;refine Calls.mono (P:=Tryz.prog) (q0T w w8 aG bx xa xb gD hbx mo.out) ?_;intro e w9 hx;obtain⟨p3,o3,rfl,hg,h72,fK⟩:=hx)
    refine hK.out _ _ (Or.inr (G.trans aG hg)) ?_
    clear hK K
    have aI:=G.trans aG hg
    have qK:=hid h72
    have ah:p3≠p1:=by have h1:=aN.out.1;have h2:=aN.out.2.1;omega
    have aY:=hid (aN.out.G hg)
    have cK:=hid (cu.out.G hg)
    have aM:Hid (p3≠p1):=ah
    clear hg h72 fK aG aN cu ah
    refine q09 (i:=0) (j:=8) (by kernel_rfl) rfl rfl ?_ ?_
    ·skip
     intro K hK
     go_simp
     refine hK.out _ _ (Or.inr (aI.alloc _)) ?_
     clear hK K
     have hn:=NI.new aI 38
     have hal:=(G.refl w9).alloc (.cells #[.bool false,.slice none 0 0] 38)
     have aF:=G.trans aI hal
     have aK:=hid (aY.out.G hal)
     have bJ:=hid (cK.out.G hal)
     have bZ:=hid (qK.out.G hal)
     have ah:w9.heap.size≠p1:=by have:=aY.out.2.1;omega
     have aB:w9.heap.size≠p4:=by have:=(cK.out.is aI).1;omega
     have cO:w9.heap.size≠p3:=by have:=(qK.out.is aI).1;omega
     generalize w9.heap.size=p0 at *
     generalize w9.alloc (.cells #[.bool false,.slice none 0 0] 38)=aX at *
     have bI:=hid hn
     have ae:Hid (p1≠p0):=ah.symm
     have aa:Hid (p0≠p1):=ah
     have az:Hid (p4≠p0):=aB.symm
     have aO:Hid (p3≠p0):=cO.symm
     clear hn hal aI aY cK qK ah aB cO
     refine q00 (l':=#[true,true,true,true,true,true,true,true,false,true,true,true,true,true,false,false,false]) (by kernel_rfl) ?_
     revert aO
     revert az
     revert ae
     revert aM
     revert av
     revert aa
     revert bZ
     revert bJ
     revert aK
     revert bI
     revert aF
     revert o3
     revert p3
     revert o4
     revert p4
     revert p1
     revert p0
     revert aX
     exact gF.out
    ·skip
     intro K hK
     go_simp
     refine hK.out _ _ (Or.inr (aI.alloc _)) ?_
     clear hK K
     have hn:=NI.new aI 38
     have hal:=(G.refl w9).alloc (.cells #[.bool false,.slice none 0 0] 38)
     have aF:=G.trans aI hal
     have aK:=hid (aY.out.G hal)
     have bJ:=hid (cK.out.G hal)
     have bZ:=hid (qK.out.G hal)
     have ah:w9.heap.size≠p1:=by have:=aY.out.2.1;omega
     have aB:w9.heap.size≠p4:=by have:=(cK.out.is aI).1;omega
     have cO:w9.heap.size≠p3:=by have:=(qK.out.is aI).1;omega
     generalize w9.heap.size=p2 at *
     generalize w9.alloc (.cells #[.bool false,.slice none 0 0] 38)=aX at *
     have aW:=hid hn
     have af:Hid (p1≠p2):=ah.symm
     have ag:Hid (p2≠p1):=ah
     have aA:Hid (p4≠p2):=aB.symm
     have aS:Hid (p3≠p2):=cO.symm
     clear hn hal aI aY cK qK ah aB cO
     refine q00 (l':=#[false,true,true,true,true,true,true,true,true,true,true,true,true,true,false,false,false]) (by kernel_rfl) ?_
     revert aS
     revert aA
     revert af
     revert aM
     revert ag
     revert av
     revert bZ
     revert aW
     revert bJ
     revert aK
     revert aF
     revert o3
     revert p3
     revert p2
     revert o4
     revert p4
     revert p1
     revert aX
     exact dG.out
  ·skip
   intro K hK
   go_simp
   refine hK.out _ _ (Or.inr (aC.alloc _)) ?_
   clear hK K
   have hn:=NI.new aC 38
   have hal:=(G.refl w7).alloc (.cells #[.bool false,.slice none 0 0] 38)
   have aG:=G.trans aC hal
   have aN:=hid (bg.out.G hal)
   have cu:=hid (HD7.out.G hal)
   have ah:w7.heap.size≠p1:=by have:=bg.out.2.1;omega
   have aB:w7.heap.size≠p4:=by have:=(HD7.out.is aC).1;omega
   generalize w7.heap.size=p2 at *
   generalize w7.alloc (.cells #[.bool false,.slice none 0 0] 38)=w8 at *
   have bV:=hid hn
   have af:Hid (p1≠p2):=ah.symm
   have ag:Hid (p2≠p1):=ah
   have aA:Hid (p4≠p2):=aB.symm
   clear hn hal aC bg HD7 ah aB
   refine q00 (l':=#[false,true,true,true,true,true,true,false,true,true,true,true,true,false,false,false,false]) (by kernel_rfl) ?_
   revert aA
   revert af
   revert ag
   revert av
   revert bV
   revert cu
   revert aN
   revert aG
   revert p2
   revert o4
   revert p4
   revert p1
   revert w8
   exact j4.out
  refine Later.mk ?_
  intro w7 p1 p2 aC bg bM ag af
  refine q09 (i:=0) (j:=6) (by kernel_rfl) rfl rfl ?_ ?_
  ·skip
   intro K hK
   go_simp
   refine hK.out _ _ (Or.inr (aC.alloc _)) ?_
   clear hK K
   have hn:=NI.new aC 38
   have hal:=(G.refl w7).alloc (.cells #[.bool false,.slice none 0 0] 38)
   have aG:=G.trans aC hal
   have aN:=hid (bg.out.G hal)
   have bV:=hid (bM.out.G hal)
   have ah:w7.heap.size≠p1:=by have:=bg.out.2.1;omega
   have ak:w7.heap.size≠p2:=by have:=bM.out.2.1;omega
   generalize w7.heap.size=p0 at *
   generalize w7.alloc (.cells #[.bool false,.slice none 0 0] 38)=w8 at *
   have bW:=hid hn
   have ae:Hid (p1≠p0):=ah.symm
   have aa:Hid (p0≠p1):=ah
   have aj:Hid (p2≠p0):=ak.symm
   have ai:Hid (p0≠p2):=ak
   clear hn hal aC bg bM ah ak
   refine q00 (l':=#[true,true,true,true,true,true,false,false,true,true,true,true,true,false,false,false,false]) (by kernel_rfl) ?_
   revert aj
   revert ae
   revert af
   revert ai
   revert ag
   revert aa
   revert bV
   revert aN
   revert bW
   revert aG
   revert p2
   revert p1
   revert p0
   revert w8
   exact iY.out
  ·skip
   intro K hK
   go_simp
   go_wp2_with (go_at_call 50;refine Calls.mono (P:=Tryz.prog) (q0T w w7 aC b2 ya yb dD hby jc.out) ?_;intro e w8 hx;obtain⟨p4,o4,rfl,hg,h72,fK⟩:=hx)
   refine hK.out _ _ (Or.inr (G.trans aC hg)) ?_
   clear hK K
   have aG:=G.trans aC hg
   have cu:=hid h72
   have ah:p4≠p1:=by have h1:=bg.out.1;have h2:=bg.out.2.1;omega
   have ak:p4≠p2:=by have h1:=bM.out.1;have h2:=bM.out.2.1;omega
   have aN:=hid (bg.out.G hg)
   have bV:=hid (bM.out.G hg)
   have av:Hid (p4≠p1):=ah
   have aA:Hid (p4≠p2):=ak
   clear hg h72 fK aC bg bM ah ak
   refine q00 (l':=#[false,true,true,true,true,true,true,false,true,true,true,true,true,false,false,false,false]) (by kernel_rfl) ?_
   revert aA
   revert af
   revert ag
   revert av
   revert bV
   revert cu
   revert aN
   revert aG
   revert p2
   revert o4
   revert p4
   revert p1
   revert w8
   exact j4.out
  refine Later.mk ?_
  intro w7 p0 p4 o4 aC bL HD7 az
  refine q09 (i:=1) (j:=8) (by kernel_rfl) rfl rfl ?_ ?_
  ·skip
   intro K hK
   go_simp
   refine hK.out _ _ (Or.inr (aC.alloc _)) ?_
   clear hK K
   have hn:=NI.new aC 38
   have hal:=(G.refl w7).alloc (.cells #[.bool false,.slice none 0 0] 38)
   have aG:=G.trans aC hal
   have bW:=hid (bL.out.G hal)
   have cu:=hid (HD7.out.G hal)
   have au:w7.heap.size≠p0:=by have:=bL.out.2.1;omega
   have aB:w7.heap.size≠p4:=by have:=(HD7.out.is aC).1;omega
   generalize w7.heap.size=p1 at *
   generalize w7.alloc (.cells #[.bool false,.slice none 0 0] 38)=w8 at *
   have aN:=hid hn
   have aa:Hid (p0≠p1):=au.symm
   have ae:Hid (p1≠p0):=au
   have av:Hid (p4≠p1):=aB.symm
   clear hn hal aC bL HD7 au aB
   refine q00 (l':=#[true,true,true,true,true,true,true,false,false,true,true,true,true,false,false,false,false]) (by kernel_rfl) ?_
   revert az
   revert ae
   revert av
   revert aa
   revert cu
   revert aN
   revert bW
   revert aG
   revert o4
   revert p4
   revert p1
   revert p0
   revert w8
   exact iZ.out
  ·skip
   intro K hK
   go_simp
   refine hK.out _ _ (Or.inr (aC.alloc _)) ?_
   clear hK K
   have hn:=NI.new aC 38
   have hal:=(G.refl w7).alloc (.cells #[.bool false,.slice none 0 0] 38)
   have aG:=G.trans aC hal
   have bW:=hid (bL.out.G hal)
   have cu:=hid (HD7.out.G hal)
   have au:w7.heap.size≠p0:=by have:=bL.out.2.1;omega
   have aB:w7.heap.size≠p4:=by have:=(HD7.out.is aC).1;omega
   generalize w7.heap.size=p2 at *
   generalize w7.alloc (.cells #[.bool false,.slice none 0 0] 38)=w8 at *
   have bV:=hid hn
   have ai:Hid (p0≠p2):=au.symm
   have aj:Hid (p2≠p0):=au
   have aA:Hid (p4≠p2):=aB.symm
   clear hn hal aC bL HD7 au aB
   refine q00 (l':=#[true,false,true,true,true,true,true,false,true,true,true,true,true,false,false,false,false]) (by kernel_rfl) ?_
   revert aj
   revert az
   revert aA
   revert ai
   revert bV
   revert cu
   revert bW
   revert aG
   revert p2
   revert o4
   revert p4
   revert p0
   revert w8
   exact j3.out
  refine Later.mk ?_
  intro w7 p0 p2 aC bL bM ai aj
  refine q09 (i:=1) (j:=6) (by kernel_rfl) rfl rfl ?_ ?_
  ·skip
   intro K hK
   go_simp
   refine hK.out _ _ (Or.inr (aC.alloc _)) ?_
   clear hK K
   have hn:=NI.new aC 38
   have hal:=(G.refl w7).alloc (.cells #[.bool false,.slice none 0 0] 38)
   have aG:=G.trans aC hal
   have bW:=hid (bL.out.G hal)
   have bV:=hid (bM.out.G hal)
   have au:w7.heap.size≠p0:=by have:=bL.out.2.1;omega
   have ak:w7.heap.size≠p2:=by have:=bM.out.2.1;omega
   generalize w7.heap.size=p1 at *
   generalize w7.alloc (.cells #[.bool false,.slice none 0 0] 38)=w8 at *
   have aN:=hid hn
   have aa:Hid (p0≠p1):=au.symm
   have ae:Hid (p1≠p0):=au
   have ag:Hid (p2≠p1):=ak.symm
   have af:Hid (p1≠p2):=ak
   clear hn hal aC bL bM au ak
   refine q00 (l':=#[true,true,true,true,true,true,false,false,true,true,true,true,true,false,false,false,false]) (by kernel_rfl) ?_
   revert aj
   revert ae
   revert af
   revert ai
   revert ag
   revert aa
   revert bV
   revert aN
   revert bW
   revert aG
   revert p2
   revert p1
   revert p0
   revert w8
   exact iY.out
  ·skip
   intro K hK
   go_simp
   go_wp2_with (go_at_call 50;refine Calls.mono (P:=Tryz.prog) (q0T w w7 aC b2 ya yb dD hby jc.out) ?_;intro e w8 hx;obtain⟨p4,o4,rfl,hg,h72,fK⟩:=hx)
   refine hK.out _ _ (Or.inr (G.trans aC hg)) ?_
   clear hK K
   have aG:=G.trans aC hg
   have cu:=hid h72
   have au:p4≠p0:=by have h1:=bL.out.1;have h2:=bL.out.2.1;omega
   have ak:p4≠p2:=by have h1:=bM.out.1;have h2:=bM.out.2.1;omega
   have bW:=hid (bL.out.G hg)
   have bV:=hid (bM.out.G hg)
   have az:Hid (p4≠p0):=au
   have aA:Hid (p4≠p2):=ak
   clear hg h72 fK aC bL bM au ak
   refine q00 (l':=#[true,false,true,true,true,true,true,false,true,true,true,true,true,false,false,false,false]) (by kernel_rfl) ?_
   revert aj
   revert az
   revert aA
   revert ai
   revert bV
   revert cu
   revert bW
   revert aG
   revert p2
   revert o4
   revert p4
   revert p0
   revert w8
   exact j3.out
  refine Later.mk ?_
  intro w7 p0 p1 aC bL bg aa ae
  refine q09 (i:=6) (j:=8) (by kernel_rfl) rfl rfl ?_ ?_
  ·skip
   intro K hK
   go_simp
   go_wp2_with (go_at_call 50;refine Calls.mono (P:=Tryz.prog) (q0T w w7 aC b2 ya yb dD hby jc.out) ?_;intro e w8 hx;obtain⟨p4,o4,rfl,hg,h72,fK⟩:=hx)
   refine hK.out _ _ (Or.inr (G.trans aC hg)) ?_
   clear hK K
   have aG:=G.trans aC hg
   have cu:=hid h72
   have au:p4≠p0:=by have h1:=bL.out.1;have h2:=bL.out.2.1;omega
   have ah:p4≠p1:=by have h1:=bg.out.1;have h2:=bg.out.2.1;omega
   have bW:=hid (bL.out.G hg)
   have aN:=hid (bg.out.G hg)
   have az:Hid (p4≠p0):=au
   have av:Hid (p4≠p1):=ah
   clear hg h72 fK aC bL bg au ah
   refine q00 (l':=#[true,true,true,true,true,true,true,false,false,true,true,true,true,false,false,false,false]) (by kernel_rfl) ?_
   revert az
   revert ae
   revert av
   revert aa
   revert cu
   revert aN
   revert bW
   revert aG
   revert o4
   revert p4
   revert p1
   revert p0
   revert w8
   exact iZ.out
  ·skip
   intro K hK
   go_simp
   refine hK.out _ _ (Or.inr (aC.alloc _)) ?_
   clear hK K
   have hn:=NI.new aC 38
   have hal:=(G.refl w7).alloc (.cells #[.bool false,.slice none 0 0] 38)
   have aG:=G.trans aC hal
   have bW:=hid (bL.out.G hal)
   have aN:=hid (bg.out.G hal)
   have au:w7.heap.size≠p0:=by have:=bL.out.2.1;omega
   have ah:w7.heap.size≠p1:=by have:=bg.out.2.1;omega
   generalize w7.heap.size=p2 at *
   generalize w7.alloc (.cells #[.bool false,.slice none 0 0] 38)=w8 at *
   have bV:=hid hn
   have ai:Hid (p0≠p2):=au.symm
   have aj:Hid (p2≠p0):=au
   have af:Hid (p1≠p2):=ah.symm
   have ag:Hid (p2≠p1):=ah
   clear hn hal aC bL bg au ah
   refine q00 (l':=#[true,true,true,true,true,true,false,false,true,true,true,true,true,false,false,false,false]) (by kernel_rfl) ?_
   revert aj
   revert ae
   revert af
   revert ai
   revert ag
   revert aa
   revert bV
   revert aN
   revert bW
   revert aG
   revert p2
   revert p1
   revert p0
   revert w8
   exact iY.out
  refine Later.mk ?_
  intro w8 p1 p4 o4 p2 aG aN cu bV av ag af aA
  refine q09 (i:=0) (j:=7) (by kernel_rfl) rfl rfl ?_ ?_
  ·skip
   intro K hK
   go_simp
   refine hK.out _ _ (Or.inr (aG.alloc _)) ?_
   clear hK K
   have hn:=NI.new aG 38
   have hal:=(G.refl w8).alloc (.cells #[.bool false,.slice none 0 0] 38)
   have aI:=G.trans aG hal
   have aY:=hid (aN.out.G hal)
   have cK:=hid (cu.out.G hal)
   have dJ:=hid (bV.out.G hal)
   have ah:w8.heap.size≠p1:=by have:=aN.out.2.1;omega
   have aB:w8.heap.size≠p4:=by have:=(cu.out.is aG).1;omega
   have ak:w8.heap.size≠p2:=by have:=bV.out.2.1;omega
   generalize w8.heap.size=p0 at *
   generalize w8.alloc (.cells #[.bool false,.slice none 0 0] 38)=w9 at *
   have dI:=hid hn
   have ae:Hid (p1≠p0):=ah.symm
   have aa:Hid (p0≠p1):=ah
   have az:Hid (p4≠p0):=aB.symm
   have aj:Hid (p2≠p0):=ak.symm
   have ai:Hid (p0≠p2):=ak
   clear hn hal aG aN cu bV ah aB ak
   refine q00 (l':=#[true,true,true,true,true,true,true,false,true,true,true,true,true,false,false,false,false]) (by kernel_rfl) ?_
   revert aj
   revert az
   revert ae
   revert aA
   revert af
   revert ai
   revert ag
   revert av
   revert aa
   revert dJ
   revert cK
   revert aY
   revert dI
   revert aI
   revert p2
   revert o4
   revert p4
   revert p1
   revert p0
   revert w9
   exact dY.out
  ·skip
   intro K hK
   go_simp
   have dh:Hid _:=q17 w8 p1 0 bx 0 p4 o4 0 xa yb KB (by omega) iE.out gV.out aN.out.2.1 (G.lt aG hbx) (cu.out.is aG).1 aN.out.2.2 (IntIs.G HX0.out hbx aG) (cu.out.is aG).2
   go_wp2_with (go_at_call 49;refine Calls.mono (P:=Tryz.prog) dh.out ?_;intro e w9 hx;obtain⟨rfl,aI,hl,-,hkp⟩:=SetTo.step aG aN.out hx)
   have aY:=hid hl
   have cK:=hid (DI.keep cu.out (hkp _ _ av.out))
   have dJ:=hid (hkp _ _ ag.out bV.out)
   refine hK.out _ _ (Or.inr aI) ?_
   clear hK K hx hl hkp dh aG aN cu bV
   refine q00 (l':=#[false,true,true,true,true,true,true,true,true,true,true,true,true,false,false,false,false]) (by kernel_rfl) ?_
   revert aA
   revert af
   revert ag
   revert av
   revert dJ
   revert cK
   revert aY
   revert aI
   revert p2
   revert o4
   revert p4
   revert p1
   revert w9
   exact eX.out
  refine Later.mk ?_
  intro w8 p0 p4 o4 p2 aG bW cu bV ai aA az aj
  refine q03 (i:=1) (by kernel_rfl) rfl ?_
  intro K hK
  go_simp
  refine hK.out _ _ (Or.inr (aG.alloc _)) ?_
  clear hK K
  have hn:=NI.new aG 38
  have hal:=(G.refl w8).alloc (.cells #[.bool false,.slice none 0 0] 38)
  have aI:=G.trans aG hal
  have dI:=hid (bW.out.G hal)
  have cK:=hid (cu.out.G hal)
  have dJ:=hid (bV.out.G hal)
  have au:w8.heap.size≠p0:=by have:=bW.out.2.1;omega
  have aB:w8.heap.size≠p4:=by have:=(cu.out.is aG).1;omega
  have ak:w8.heap.size≠p2:=by have:=bV.out.2.1;omega
  generalize w8.heap.size=p1 at *
  generalize w8.alloc (.cells #[.bool false,.slice none 0 0] 38)=w9 at *
  have aY:=hid hn
  have aa:Hid (p0≠p1):=au.symm
  have ae:Hid (p1≠p0):=au
  have av:Hid (p4≠p1):=aB.symm
  have ag:Hid (p2≠p1):=ak.symm
  have af:Hid (p1≠p2):=ak
  clear hn hal aG bW cu bV au aB ak
  refine q00 (l':=#[true,true,true,true,true,true,true,false,true,true,true,true,true,false,false,false,false]) (by kernel_rfl) ?_
  revert aj
  revert az
  revert ae
  revert aA
  revert af
  revert ai
  revert ag
  revert av
  revert aa
  revert dJ
  revert cK
  revert aY
  revert dI
  revert aI
  revert p2
  revert o4
  revert p4
  revert p1
  revert p0
  revert w9
  exact dY.out
  refine Later.mk ?_
  intro w8 p0 p1 p4 o4 aG bW aN cu aa av ae az
  refine q09 (i:=7) (j:=8) (by kernel_rfl) rfl rfl ?_ ?_
  ·skip
   intro K hK
   go_simp
   have dh:Hid _:=q17 w8 p1 0 bx 0 p4 o4 0 xa yb KB (by omega) iE.out gV.out aN.out.2.1 (G.lt aG hbx) (cu.out.is aG).1 aN.out.2.2 (IntIs.G HX0.out hbx aG) (cu.out.is aG).2
   go_wp2_with (go_at_call 49;refine Calls.mono (P:=Tryz.prog) dh.out ?_;intro e w9 hx;obtain⟨rfl,aI,hl,-,hkp⟩:=SetTo.step aG aN.out hx)
   have aY:=hid hl
   have dI:=hid (hkp _ _ aa.out bW.out)
   have cK:=hid (DI.keep cu.out (hkp _ _ av.out))
   refine hK.out _ _ (Or.inr aI) ?_
   clear hK K hx hl hkp dh aG bW aN cu
   refine q00 (l':=#[true,true,true,true,true,true,true,true,false,true,true,true,true,false,false,false,false]) (by kernel_rfl) ?_
   revert az
   revert ae
   revert av
   revert aa
   revert cK
   revert aY
   revert dI
   revert aI
   revert o4
   revert p4
   revert p1
   revert p0
   revert w9
   exact iX.out
  ·skip
   intro K hK
   go_simp
   refine hK.out _ _ (Or.inr (aG.alloc _)) ?_
   clear hK K
   have hn:=NI.new aG 38
   have hal:=(G.refl w8).alloc (.cells #[.bool false,.slice none 0 0] 38)
   have aI:=G.trans aG hal
   have dI:=hid (bW.out.G hal)
   have aY:=hid (aN.out.G hal)
   have cK:=hid (cu.out.G hal)
   have au:w8.heap.size≠p0:=by have:=bW.out.2.1;omega
   have ah:w8.heap.size≠p1:=by have:=aN.out.2.1;omega
   have aB:w8.heap.size≠p4:=by have:=(cu.out.is aG).1;omega
   generalize w8.heap.size=p2 at *
   generalize w8.alloc (.cells #[.bool false,.slice none 0 0] 38)=w9 at *
   have dJ:=hid hn
   have ai:Hid (p0≠p2):=au.symm
   have aj:Hid (p2≠p0):=au
   have af:Hid (p1≠p2):=ah.symm
   have ag:Hid (p2≠p1):=ah
   have aA:Hid (p4≠p2):=aB.symm
   clear hn hal aG bW aN cu au ah aB
   refine q00 (l':=#[true,true,true,true,true,true,true,false,true,true,true,true,true,false,false,false,false]) (by kernel_rfl) ?_
   revert aj
   revert az
   revert ae
   revert aA
   revert af
   revert ai
   revert ag
   revert av
   revert aa
   revert dJ
   revert cK
   revert aY
   revert dI
   revert aI
   revert p2
   revert o4
   revert p4
   revert p1
   revert p0
   revert w9
   exact dY.out
  refine Later.mk ?_
  intro w8 p0 p1 p2 aG bW aN bV aa ag ai af ae aj
  refine q03 (i:=6) (by kernel_rfl) rfl ?_
  intro K hK
  go_simp
  go_wp2_with (go_at_call 50;refine Calls.mono (P:=Tryz.prog) (q0T w w8 aG b2 ya yb dD hby jc.out) ?_;intro e w9 hx;obtain⟨p4,o4,rfl,hg,h72,fK⟩:=hx)
  refine hK.out _ _ (Or.inr (G.trans aG hg)) ?_
  clear hK K
  have aI:=G.trans aG hg
  have cK:=hid h72
  have au:p4≠p0:=by have h1:=bW.out.1;have h2:=bW.out.2.1;omega
  have ah:p4≠p1:=by have h1:=aN.out.1;have h2:=aN.out.2.1;omega
  have ak:p4≠p2:=by have h1:=bV.out.1;have h2:=bV.out.2.1;omega
  have dI:=hid (bW.out.G hg)
  have aY:=hid (aN.out.G hg)
  have dJ:=hid (bV.out.G hg)
  have az:Hid (p4≠p0):=au
  have av:Hid (p4≠p1):=ah
  have aA:Hid (p4≠p2):=ak
  clear hg h72 fK aG bW aN bV au ah ak
  refine q00 (l':=#[true,true,true,true,true,true,true,false,true,true,true,true,true,false,false,false,false]) (by kernel_rfl) ?_
  revert aj
  revert az
  revert ae
  revert aA
  revert af
  revert ai
  revert ag
  revert av
  revert aa
  revert dJ
  revert cK
  revert aY
  revert dI
  revert aI
  revert p2
  revert o4
  revert p4
  revert p1
  revert p0
  revert w9
  exact dY.out
  refine Later.mk ?_
  intro w9 p1 p4 o4 p2 aI aY cK dJ av ag af aA
  refine q09 (i:=0) (j:=13) (by kernel_rfl) rfl rfl ?_ ?_
  ·skip
   intro K hK
   go_simp
   refine hK.out _ _ (Or.inr (aI.alloc _)) ?_
   clear hK K
   have hn:=NI.new aI 38
   have hal:=(G.refl w9).alloc (.cells #[.bool false,.slice none 0 0] 38)
   have aF:=G.trans aI hal
   have aK:=hid (aY.out.G hal)
   have bJ:=hid (cK.out.G hal)
   have aW:=hid (dJ.out.G hal)
   have ah:w9.heap.size≠p1:=by have:=aY.out.2.1;omega
   have aB:w9.heap.size≠p4:=by have:=(cK.out.is aI).1;omega
   have ak:w9.heap.size≠p2:=by have:=dJ.out.2.1;omega
   generalize w9.heap.size=p0 at *
   generalize w9.alloc (.cells #[.bool false,.slice none 0 0] 38)=aX at *
   have bI:=hid hn
   have ae:Hid (p1≠p0):=ah.symm
   have aa:Hid (p0≠p1):=ah
   have az:Hid (p4≠p0):=aB.symm
   have aj:Hid (p2≠p0):=ak.symm
   have ai:Hid (p0≠p2):=ak
   clear hn hal aI aY cK dJ ah aB ak
   refine q00 (l':=#[true,true,true,true,true,true,true,true,true,true,true,true,true,false,false,false,false]) (by kernel_rfl) ?_
   revert aj
   revert az
   revert ae
   revert aA
   revert af
   revert ai
   revert ag
   revert av
   revert aa
   revert aW
   revert bJ
   revert aK
   revert bI
   revert aF
   revert p2
   revert o4
   revert p4
   revert p1
   revert p0
   revert aX
   exact dX.out
  ·skip
   intro K hK
   go_simp
   go_wp2_with (go_at_call 50;refine Calls.mono (P:=Tryz.prog) (q0T w w9 aI bx xa xb gD hbx mo.out) ?_;intro e aX hx;obtain⟨p3,o3,rfl,hg,h72,fK⟩:=hx)
   refine hK.out _ _ (Or.inr (G.trans aI hg)) ?_
   clear hK K
   have aF:=G.trans aI hg
   have bZ:=hid h72
   have ah:p3≠p1:=by have h1:=aY.out.1;have h2:=aY.out.2.1;omega
   have ak:p3≠p2:=by have h1:=dJ.out.1;have h2:=dJ.out.2.1;omega
   have aK:=hid (aY.out.G hg)
   have bJ:=hid (cK.out.G hg)
   have aW:=hid (dJ.out.G hg)
   have aM:Hid (p3≠p1):=ah
   have aS:Hid (p3≠p2):=ak
   clear hg h72 fK aI aY cK dJ ah ak
   refine q00 (l':=#[false,true,true,true,true,true,true,true,true,true,true,true,true,true,false,false,false]) (by kernel_rfl) ?_
   revert aS
   revert aA
   revert af
   revert aM
   revert ag
   revert av
   revert bZ
   revert aW
   revert bJ
   revert aK
   revert aF
   revert o3
   revert p3
   revert p2
   revert o4
   revert p4
   revert p1
   revert aX
   exact dG.out
  refine Later.mk ?_
  intro w9 p0 p1 p4 o4 aI dI aY cK aa av ae az
  refine q09 (i:=8) (j:=13) (by kernel_rfl) rfl rfl ?_ ?_
  ·skip
   intro K hK
   go_simp
   refine hK.out _ _ (Or.inr (aI.alloc _)) ?_
   clear hK K
   have hn:=NI.new aI 38
   have hal:=(G.refl w9).alloc (.cells #[.bool false,.slice none 0 0] 38)
   have aF:=G.trans aI hal
   have bI:=hid (dI.out.G hal)
   have aK:=hid (aY.out.G hal)
   have bJ:=hid (cK.out.G hal)
   have au:w9.heap.size≠p0:=by have:=dI.out.2.1;omega
   have ah:w9.heap.size≠p1:=by have:=aY.out.2.1;omega
   have aB:w9.heap.size≠p4:=by have:=(cK.out.is aI).1;omega
   generalize w9.heap.size=p2 at *
   generalize w9.alloc (.cells #[.bool false,.slice none 0 0] 38)=aX at *
   have aW:=hid hn
   have ai:Hid (p0≠p2):=au.symm
   have aj:Hid (p2≠p0):=au
   have af:Hid (p1≠p2):=ah.symm
   have ag:Hid (p2≠p1):=ah
   have aA:Hid (p4≠p2):=aB.symm
   clear hn hal aI dI aY cK au ah aB
   refine q00 (l':=#[true,true,true,true,true,true,true,true,true,true,true,true,true,false,false,false,false]) (by kernel_rfl) ?_
   revert aj
   revert az
   revert ae
   revert aA
   revert af
   revert ai
   revert ag
   revert av
   revert aa
   revert aW
   revert bJ
   revert aK
   revert bI
   revert aF
   revert p2
   revert o4
   revert p4
   revert p1
   revert p0
   revert aX
   exact dX.out
  ·skip
   intro K hK
   go_simp
   go_wp2_with (go_at_call 50;refine Calls.mono (P:=Tryz.prog) (q0T w w9 aI bx xa xb gD hbx mo.out) ?_;intro e aX hx;obtain⟨p3,o3,rfl,hg,h72,fK⟩:=hx)
   refine hK.out _ _ (Or.inr (G.trans aI hg)) ?_
   clear hK K
   have aF:=G.trans aI hg
   have bZ:=hid h72
   have au:p3≠p0:=by have h1:=dI.out.1;have h2:=dI.out.2.1;omega
   have ah:p3≠p1:=by have h1:=aY.out.1;have h2:=aY.out.2.1;omega
   have bI:=hid (dI.out.G hg)
   have aK:=hid (aY.out.G hg)
   have bJ:=hid (cK.out.G hg)
   have aO:Hid (p3≠p0):=au
   have aM:Hid (p3≠p1):=ah
   clear hg h72 fK aI dI aY cK au ah
   refine q00 (l':=#[true,true,true,true,true,true,true,true,false,true,true,true,true,true,false,false,false]) (by kernel_rfl) ?_
   revert aO
   revert az
   revert ae
   revert aM
   revert av
   revert aa
   revert bZ
   revert bJ
   revert aK
   revert bI
   revert aF
   revert o3
   revert p3
   revert o4
   revert p4
   revert p1
   revert p0
   revert aX
   exact gF.out
  refine Later.mk ?_
  intro w9 p0 p1 p4 o4 p2 aI dI aY cK dJ aa av ag ai af aA ae az aj
  refine q03 (i:=7) (by kernel_rfl) rfl ?_
  intro K hK
  go_simp
  have dh:Hid _:=q17 w9 p1 0 bx 0 p4 o4 0 xa yb KB (by omega) iE.out gV.out aY.out.2.1 (G.lt aI hbx) (cK.out.is aI).1 aY.out.2.2 (IntIs.G HX0.out hbx aI) (cK.out.is aI).2
  go_wp2_with (go_at_call 49;refine Calls.mono (P:=Tryz.prog) dh.out ?_;intro e aX hx;obtain⟨rfl,aF,hl,-,hkp⟩:=SetTo.step aI aY.out hx)
  have aK:=hid hl
  have bI:=hid (hkp _ _ aa.out dI.out)
  have bJ:=hid (DI.keep cK.out (hkp _ _ av.out))
  have aW:=hid (hkp _ _ ag.out dJ.out)
  refine hK.out _ _ (Or.inr aF) ?_
  clear hK K hx hl hkp dh aI dI aY cK dJ
  refine q00 (l':=#[true,true,true,true,true,true,true,true,true,true,true,true,true,false,false,false,false]) (by kernel_rfl) ?_
  revert aj
  revert az
  revert ae
  revert aA
  revert af
  revert ai
  revert ag
  revert av
  revert aa
  revert aW
  revert bJ
  revert aK
  revert bI
  revert aF
  revert p2
  revert o4
  revert p4
  revert p1
  revert p0
  revert aX
  exact dX.out
  refine Later.mk ?_
  intro aX p1 p4 o4 p2 p3 o3 aF aK bJ aW bZ av ag aM af aA aS
  refine q09 (i:=0) (j:=14) (by kernel_rfl) rfl rfl ?_ ?_
  ·skip
   intro K hK
   go_simp
   refine hK.out _ _ (Or.inr (aF.alloc _)) ?_
   clear hK K
   have hn:=NI.new aF 38
   have hal:=(G.refl aX).alloc (.cells #[.bool false,.slice none 0 0] 38)
   have aT:=G.trans aF hal
   have df:=hid (aK.out.G hal)
   have gW:=hid (bJ.out.G hal)
   have bY:=hid (aW.out.G hal)
   have fM:=hid (bZ.out.G hal)
   have ah:aX.heap.size≠p1:=by have:=aK.out.2.1;omega
   have aB:aX.heap.size≠p4:=by have:=(bJ.out.is aF).1;omega
   have ak:aX.heap.size≠p2:=by have:=aW.out.2.1;omega
   have cO:aX.heap.size≠p3:=by have:=(bZ.out.is aF).1;omega
   generalize aX.heap.size=p0 at *
   generalize aX.alloc (.cells #[.bool false,.slice none 0 0] 38)=bC at *
   have eY:=hid hn
   have ae:Hid (p1≠p0):=ah.symm
   have aa:Hid (p0≠p1):=ah
   have az:Hid (p4≠p0):=aB.symm
   have aj:Hid (p2≠p0):=ak.symm
   have ai:Hid (p0≠p2):=ak
   have aO:Hid (p3≠p0):=cO.symm
   clear hn hal aF aK bJ aW bZ ah aB ak cO
   refine q00 (l':=#[true,true,true,true,true,true,true,true,true,true,true,true,true,true,false,false,false]) (by kernel_rfl) ?_
   revert aO
   revert aj
   revert az
   revert ae
   revert aS
   revert aA
   revert af
   revert ai
   revert aM
   revert ag
   revert av
   revert aa
   revert fM
   revert bY
   revert gW
   revert df
   revert eY
   revert aT
   revert o3
   revert p3
   revert p2
   revert o4
   revert p4
   revert p1
   revert p0
   revert bC
   exact dB.out
  ·skip
   intro K hK
   go_simp
   have dh:Hid _:=q17 aX p2 0 b2 0 p3 o3 0 ya xb KB (by omega) kM.out jT.out aW.out.2.1 (G.lt aF hby) (bZ.out.is aF).1 aW.out.2.2 (IntIs.G qB.out hby aF) (bZ.out.is aF).2
   go_wp2_with (go_at_call 49;refine Calls.mono (P:=Tryz.prog) dh.out ?_;intro e bC hx;obtain⟨rfl,aT,hl,-,hkp⟩:=SetTo.step aF aW.out hx)
   have bY:=hid hl
   have df:=hid (hkp _ _ af.out aK.out)
   have gW:=hid (DI.keep bJ.out (hkp _ _ aA.out))
   have fM:=hid (DI.keep bZ.out (hkp _ _ aS.out))
   refine hK.out _ _ (Or.inr aT) ?_
   clear hK K hx hl hkp dh aF aK bJ aW bZ
   refine q03 (i:=0) (by kernel_rfl) rfl ?_
   intro K hK
   go_simp
   refine hK.out _ _ (Or.inr (aT.alloc _)) ?_
   clear hK K
   have hn:=NI.new aT 38
   have hal:=(G.refl bC).alloc (.cells #[.bool false,.slice none 0 0] 38)
   have fJ:=G.trans aT hal
   have eZ:=hid (df.out.G hal)
   have mY:=hid (gW.out.G hal)
   have fe:=hid (bY.out.G hal)
   have mZ:=hid (fM.out.G hal)
   have ah:bC.heap.size≠p1:=by have:=df.out.2.1;omega
   have aB:bC.heap.size≠p4:=by have:=(gW.out.is aT).1;omega
   have ak:bC.heap.size≠p2:=by have:=bY.out.2.1;omega
   have cO:bC.heap.size≠p3:=by have:=(fM.out.is aT).1;omega
   generalize bC.heap.size=p0 at *
   generalize bC.alloc (.cells #[.bool false,.slice none 0 0] 38)=dK at *
   have fo:=hid hn
   have ae:Hid (p1≠p0):=ah.symm
   have aa:Hid (p0≠p1):=ah
   have az:Hid (p4≠p0):=aB.symm
   have aj:Hid (p2≠p0):=ak.symm
   have ai:Hid (p0≠p2):=ak
   have aO:Hid (p3≠p0):=cO.symm
   clear hn hal aT df gW bY fM ah aB ak cO
   refine q00 (l':=#[true,true,true,true,true,true,true,true,true,true,true,true,true,true,true,false,false]) (by kernel_rfl) ?_
   revert aO
   revert aj
   revert az
   revert ae
   revert aS
   revert aA
   revert af
   revert ai
   revert aM
   revert ag
   revert av
   revert aa
   revert mZ
   revert fe
   revert mY
   revert eZ
   revert fo
   revert fJ
   revert o3
   revert p3
   revert p2
   revert o4
   revert p4
   revert p1
   revert p0
   revert dK
   exact dU.out
  refine Later.mk ?_
  intro aX p0 p1 p4 o4 p3 o3 aF bI aK bJ bZ aa av aM ae az aO
  refine q03 (i:=8) (by kernel_rfl) rfl ?_
  intro K hK
  go_simp
  refine hK.out _ _ (Or.inr (aF.alloc _)) ?_
  clear hK K
  have hn:=NI.new aF 38
  have hal:=(G.refl aX).alloc (.cells #[.bool false,.slice none 0 0] 38)
  have aT:=G.trans aF hal
  have eY:=hid (bI.out.G hal)
  have df:=hid (aK.out.G hal)
  have gW:=hid (bJ.out.G hal)
  have fM:=hid (bZ.out.G hal)
  have au:aX.heap.size≠p0:=by have:=bI.out.2.1;omega
  have ah:aX.heap.size≠p1:=by have:=aK.out.2.1;omega
  have aB:aX.heap.size≠p4:=by have:=(bJ.out.is aF).1;omega
  have cO:aX.heap.size≠p3:=by have:=(bZ.out.is aF).1;omega
  generalize aX.heap.size=p2 at *
  generalize aX.alloc (.cells #[.bool false,.slice none 0 0] 38)=bC at *
  have bY:=hid hn
  have ai:Hid (p0≠p2):=au.symm
  have aj:Hid (p2≠p0):=au
  have af:Hid (p1≠p2):=ah.symm
  have ag:Hid (p2≠p1):=ah
  have aA:Hid (p4≠p2):=aB.symm
  have aS:Hid (p3≠p2):=cO.symm
  clear hn hal aF bI aK bJ bZ au ah aB cO
  refine q00 (l':=#[true,true,true,true,true,true,true,true,true,true,true,true,true,true,false,false,false]) (by kernel_rfl) ?_
  revert aO
  revert aj
  revert az
  revert ae
  revert aS
  revert aA
  revert af
  revert ai
  revert aM
  revert ag
  revert av
  revert aa
  revert fM
  revert bY
  revert gW
  revert df
  revert eY
  revert aT
  revert o3
  revert p3
  revert p2
  revert o4
  revert p4
  revert p1
  revert p0
  revert bC
  exact dB.out
  refine Later.mk ?_
  intro aX p0 p1 p4 o4 p2 aF bI aK bJ aW aa av ag ai af aA ae az aj
  refine q03 (i:=13) (by kernel_rfl) rfl ?_
  intro K hK
  go_simp
  go_wp2_with (go_at_call 50;refine Calls.mono (P:=Tryz.prog) (q0T w aX aF bx xa xb gD hbx mo.out) ?_;intro e bC hx;obtain⟨p3,o3,rfl,hg,h72,fK⟩:=hx)
  refine hK.out _ _ (Or.inr (G.trans aF hg)) ?_
  clear hK K
  have aT:=G.trans aF hg
  have fM:=hid h72
  have au:p3≠p0:=by have h1:=bI.out.1;have h2:=bI.out.2.1;omega
  have ah:p3≠p1:=by have h1:=aK.out.1;have h2:=aK.out.2.1;omega
  have ak:p3≠p2:=by have h1:=aW.out.1;have h2:=aW.out.2.1;omega
  have eY:=hid (bI.out.G hg)
  have df:=hid (aK.out.G hg)
  have gW:=hid (bJ.out.G hg)
  have bY:=hid (aW.out.G hg)
  have aO:Hid (p3≠p0):=au
  have aM:Hid (p3≠p1):=ah
  have aS:Hid (p3≠p2):=ak
  clear hg h72 fK aF bI aK bJ aW au ah ak
  refine q00 (l':=#[true,true,true,true,true,true,true,true,true,true,true,true,true,true,false,false,false]) (by kernel_rfl) ?_
  revert aO
  revert aj
  revert az
  revert ae
  revert aS
  revert aA
  revert af
  revert ai
  revert aM
  revert ag
  revert av
  revert aa
  revert fM
  revert bY
  revert gW
  revert df
  revert eY
  revert aT
  revert o3
  revert p3
  revert p2
  revert o4
  revert p4
  revert p1
  revert p0
  revert bC
  exact dB.out
  refine Later.mk ?_
  intro bC p0 p1 p4 o4 p2 p3 o3 aT eY df gW bY fM aa av ag aM ai af aA aS ae az aj aO
  refine q03 (i:=14) (by kernel_rfl) rfl ?_
  intro K hK
  go_simp
  have dh:Hid _:=q17 bC p2 0 b2 0 p3 o3 0 ya xb KB (by omega) kM.out jT.out bY.out.2.1 (G.lt aT hby) (fM.out.is aT).1 bY.out.2.2 (IntIs.G qB.out hby aT) (fM.out.is aT).2
  go_wp2_with (go_at_call 49;refine Calls.mono (P:=Tryz.prog) dh.out ?_;intro e dK hx;obtain⟨rfl,fJ,hl,-,hkp⟩:=SetTo.step aT bY.out hx)
  have fe:=hid hl
  have fo:=hid (hkp _ _ ai.out eY.out)
  have eZ:=hid (hkp _ _ af.out df.out)
  have mY:=hid (DI.keep gW.out (hkp _ _ aA.out))
  have mZ:=hid (DI.keep fM.out (hkp _ _ aS.out))
  refine hK.out _ _ (Or.inr fJ) ?_
  clear hK K hx hl hkp dh aT eY df gW bY fM
  refine q00 (l':=#[true,true,true,true,true,true,true,true,true,true,true,true,true,true,true,false,false]) (by kernel_rfl) ?_
  revert aO
  revert aj
  revert az
  revert ae
  revert aS
  revert aA
  revert af
  revert ai
  revert aM
  revert ag
  revert av
  revert aa
  revert mZ
  revert fe
  revert mY
  revert eZ
  revert fo
  revert fJ
  revert o3
  revert p3
  revert p2
  revert o4
  revert p4
  revert p1
  revert p0
  revert dK
  exact dU.out
  refine Later.mk ?_
  intro dK p0 p1 p4 o4 p2 p3 o3 fJ fo eZ mY fe mZ aa av ag aM ai af aA aS ae az aj aO
  refine q03 (i:=15) (by kernel_rfl) rfl ?_
  intro K hK
  go_simp
  have dh:Hid _:=qaf dK p0 0 p1 0 p2 0 0 (xa*(yb:Int)) (ya*(xb:Int)) (2*KB) (by omega) ko.out ek.out fo.out.2.1 eZ.out.2.1 fe.out.2.1 fo.out.2.2 eZ.out.2.2 fe.out.2.2
  go_wp2_with (go_at_call 65;refine Calls.mono (P:=Tryz.prog) dh.out ?_;intro e cB hx;obtain⟨rfl,jX,hl,-,hkp⟩:=SetTo.step fJ fo.out hx)
  have jY:=hid hl
  have lU:=hid (hkp _ _ ae.out eZ.out)
  have wy:=hid (DI.keep mY.out (hkp _ _ az.out))
  have lW:=hid (hkp _ _ aj.out fe.out)
  have wz:=hid (DI.keep mZ.out (hkp _ _ aO.out))
  refine hK.out _ _ (Or.inl (by decide)) ?_
  clear hK K hx hl hkp dh fJ fo eZ mY fe mZ
  refine q03 (i:=16) (by kernel_rfl) rfl ?_
  intro K hK
  go_simp
  refine hK.out _ _ (Or.inl (by decide)) ?_
  clear hK K
  refine q0n (by kernel_rfl) ?_ _
  revert aO
  revert aj
  revert az
  revert ae
  revert aS
  revert aA
  revert af
  revert ai
  revert aM
  revert ag
  revert av
  revert aa
  revert wz
  revert lW
  revert wy
  revert lU
  revert jY
  revert jX
  revert o3
  revert p3
  revert p2
  revert o4
  revert p4
  revert p1
  revert p0
  revert cB
  exact LX.out
 ·skip
  refine Later.mk ?_
  intro cB p0 p1 p4 o4 p2 p3 o3 jX jY lU wy lW wz aa av ag aM ai af aA aS ae az aj aO
  clear aa av ag aM ai af aA aS ae az aj aO
  have HS:=jY.out
  have hG:=jX
  clear jY lU lW wy wz jX
  have qG:Hid (NI w cB p0 (xa*(yb:Int)+ya*(xb:Int))):=HS
  clear HS
  go_wp2_with fail
  have hn0:=NI.new hG 38
  have hal:=(G.refl cB).alloc (.cells #[.bool false,.slice none 0 0] 38)
  have hG1:=G.trans hG hal
  have hs1:=qG.out.G hal
  have hne:p0≠cB.heap.size:=by have:=qG.out.2.1;omega
  generalize cB.heap.size=pd at *
  generalize cB.alloc (.cells #[.bool false,.slice none 0 0] 38)=v1 at *
  have ic:Hid (NI w v1 pd 0):=hn0
  have kr:Hid (NI w v1 p0 (xa*(yb:Int)+ya*(xb:Int))):=hs1
  clear hn0 hal hs1 hG qG
  refine Calls.mono (P:=Tryz.prog) (q0T w v1 hG1 bx xa xb gD hbx mo.out) ?_
  rintro e v2 ⟨pe,oe,rfl,hg2,k2,-⟩
  have HE2:Hid (DI w v2 pe oe xb):=k2
  clear k2
  have hG2:=G.trans hG1 hg2
  have ig:Hid (NI w v2 pd 0):=ic.out.G hg2
  have HS2:Hid (NI w v2 p0 (xa*(yb:Int)+ya*(xb:Int))):=kr.out.G hg2
  clear hG1 hg2 ic kr
  go_wp2_with fail
  refine Calls.mono (P:=Tryz.prog) (q0T w v2 hG2 b2 ya yb dD hby jc.out) ?_
  rintro e v3 ⟨pf,of,rfl,hg3,k3,-⟩
  have sW:Hid (DI w v3 pf of yb):=k3
  have hG3:=G.trans hG2 hg3
  have rR:Hid (NI w v3 pd 0):=ig.out.G hg3
  have mI:Hid (NI w v3 p0 (xa*(yb:Int)+ya*(xb:Int))):=HS2.out.G hg3
  have MG:Hid (DI w v3 pe oe xb):=HE2.out.G hg3
  clear hG2 hg3 ig HS2 HE2 k3
  have HM:Hid _:=q17 v3 pd 0 pe oe pf of 0 xb yb KB (by omega) jT.out gV.out rR.out.2.1 (MG.out.is hG3).1 (sW.out.is hG3).1 rR.out.2.2 (MG.out.is hG3).2 (sW.out.is hG3).2
  go_wp2_with fail
  refine Calls.mono (P:=Tryz.prog) HM.out ?_
  intro e v4 hs
  obtain⟨rfl,hG4,jS,-,hkp⟩:=SetTo.step hG3 rR.out hs
  have qW:Hid (NI w v4 p0 (xa*(yb:Int)+ya*(xb:Int))):=hkp p0 _ hne mI.out
  rw[show (xb:Int)*yb=((xb*yb:Nat):Int) from by push_cast;rfl] at jS
  have wu:Hid (NI w v4 pd ((xb*yb:Nat):Int)):=jS
  clear hs hkp jS HM rR mI hG3 hne
  have HF:Hid _:=q0N v4 bz p0 0 pd 0 s1 s2 (xa*(yb:Int)+ya*(xb:Int)) (xb*yb) (2*KB+1) (by omega) pF.out HD2.out HD0.out (G.lt hG4 hbz) qW.out.2.1 wu.out.2.1 (Bv.out.G hbz hG4) qW.out.2.2 wu.out.2.2
  go_wp2_with fail
  refine Calls.mono (P:=Tryz.prog) HF.out ?_
  intro e v5 hs
  obtain⟨rfl,k1,k2⟩:=NormTo.after hG4 hs
  have jb:Hid _:=k2
  clear hs k2 HF qW wu
  go_wp2_with fail
  go_ret
  exact⟨rfl,k1,jb.out⟩
end Go.Proofs.YtljkfjjchkehaaaGreatDoor
