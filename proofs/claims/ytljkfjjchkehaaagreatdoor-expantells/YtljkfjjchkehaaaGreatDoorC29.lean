/- What is proved here: contracts of the reference: powers of two as ratios, over this seat's translation.
What is proved here: contracts of the reference's ratios: Sub of Rat, over this seat's translation.
What is proved here: contracts of the reference's ratios: den of any Rat, laid or new, over this seat's translation.
What is proved here: contracts of the reference's ratios: Add of Rat, of laid ones and of new ones, over this seat's translation. -/
import Derived.Test.YtljkfjjchkehaaaGreatDoorC28
import Derived.Test.YtljkfjjchkehaaaGreatDoorC24
import Derived.Test.YtljkfjjchkehaaaGreatDoorC17
namespace Go.Proofs.YtljkfjjchkehaaaGreatDoor
open Go.ChangeShapes Go.WideShapes Go.ChangeAt Go.RowKit
open BN
/-- A call hands back a new Rat; nothing that was there has turned. -/
def RetR (w:World) (sa:Int) (sb:Nat) (e:Ending) (w':World):Prop:=∃ p,e= .returned (.pointer (some ⟨p,0,none⟩))∧G w w'∧w.heap.size≤p∧p<w'.heap.size∧RatIs w' p sa (sb:Int)
theorem NormTo.ret {w0 w:World} {b:Nat} {sa:Int} {sb:Nat} {e:Ending} {w':World} (g:G w0 w) (hb:w0.heap.size≤b) (hs:b<w.heap.size) (h:NormTo w b sa sb e w'):RetR w0 sa sb e w':=
 ⟨b,h.1,GX.fresh g h.2.1 hb,hb,Nat.lt_of_lt_of_le hs h.2.1.size,h.2.2⟩
set_option maxRecDepth 10000 in
set_option maxHeartbeats 8000000 in
theorem qbj (w:World) (bz bx b2:Nat) (s1 s2 xa ya:Int) (xb yb:Nat) (KB:Nat) (hK:KB≤100000) (hx2:xa.natAbs<2^(32*KB)) (hy2:ya.natAbs<2^(32*KB)) (gy:xb<2^(32*KB)) (iH:yb<2^(32*KB)) (hxb:0<xb) (hyb:0<yb)
  (hbz:bz<w.heap.size) (hbx:bx<w.heap.size) (hby:b2<w.heap.size) (hz:RatIs w bz s1 s2) (hx:RatIs w bx xa xb) (hy:RatIs w b2 ya yb):
  Calls Tryz.prog 31 #[.pointer (some ⟨bz,0,none⟩),.pointer (some ⟨bx,0,none⟩),.pointer (some ⟨b2,0,none⟩)] w (NormTo w bz (Int.tdiv (xa*(yb:Int)-ya*(xb:Int)) (Nat.gcd (xa*(yb:Int)-ya*(xb:Int)).natAbs (xb*yb):Nat)) (xb*yb/Nat.gcd (xa*(yb:Int)-ya*(xb:Int)).natAbs (xb*yb))):=by
 have jh:Hid (xa.natAbs<2^(32*KB)):=hx2
 have lM:Hid (ya.natAbs<2^(32*KB)):=hy2
 have kQ:Hid ((xb:Int).natAbs<2^(32*KB)):=by show (xb:Int).natAbs<2^(32*KB);rw[Int.natAbs_natCast];exact gy
 have iY:Hid ((yb:Int).natAbs<2^(32*KB)):=by show (yb:Int).natAbs<2^(32*KB);rw[Int.natAbs_natCast];exact iH
 have HX0:Hid (IntIs w bx 0 xa):=hx.1
 have tq:Hid (IntIs w b2 0 ya):=hy.1
 have F5:Hid (IntIs w bx 2 xb):=hx.2
 have FX:Hid (IntIs w b2 2 yb):=hy.2
 have nJ:Hid (RatIs w bx xa xb):=hx
 have kH:Hid (RatIs w b2 ya yb):=hy
 have FY:Hid (RatIs w bz s1 s2):=hz
 have iB:(xb:Int)≠0:=by omega
 have dJ:(yb:Int)≠0:=by omega
 have sI:32*(2*KB)=32*KB+32*KB:=by omega
 have hn1:(xa*(yb:Int)).natAbs<2^(32*(2*KB)):=by
  rw[Int.natAbs_mul,Int.natAbs_natCast,sI,Nat.pow_add]
  exact Nat.mul_lt_mul'' hx2 iH
 have hn2:(ya*(xb:Int)).natAbs<2^(32*(2*KB)):=by
  rw[Int.natAbs_mul,Int.natAbs_natCast,sI,Nat.pow_add]
  exact Nat.mul_lt_mul'' hy2 gy
 have hd2:xb*yb<2^(32*(2*KB)):=by
  rw[sI,Nat.pow_add]
  exact Nat.mul_lt_mul'' gy iH
 have hup:2^(32*(2*KB))*2≤2^(32*(2*KB+1)):=by rw[← Nat.pow_succ];exact Nat.pow_le_pow_right (by omega) (by omega)
 have xA:Hid ((xa*(yb:Int)).natAbs<2^(32*(2*KB))):=hn1
 have fJ:Hid ((ya*(xb:Int)).natAbs<2^(32*(2*KB))):=hn2
 have Nc:Hid ((xa*(yb:Int)-ya*(xb:Int)).natAbs<2^(32*(2*KB+1))):=by
  show (xa*(yb:Int)-ya*(xb:Int)).natAbs<2^(32*(2*KB+1))
  have:=Int.natAbs_sub_le (xa*(yb:Int)) (ya*(xb:Int))
  omega
 have HD2:Hid (xb*yb<2^(32*(2*KB+1))):=by show xb*yb<2^(32*(2*KB+1));omega
 have HD0:Hid (0<xb*yb):=Nat.mul_pos hxb hyb
 clear hx hy hz hx2 hy2 gy iH hxb hyb sI hn1 hn2 hd2 hup
 go_enter Tryz.func31,Tryz.ntmps31
 go_wp2_with fail
 apply share
 ·intro LX
  refine q0J 15 (G w) (by kernel_rfl) (by first|exact(G.refl _).drew|exact G.drew (by assumption)) ?_
  intro bS
  refine q02 2 (v:= ?_) rfl (by kernel_rfl) (fun _ _ _ h=>h) rfl ?_ ‹_› ?_
  rotate_left
  ·intro wq hwq
   first|(go_simp;done)|(go_simp;with_reducible rfl)
  try simp only[aput,List.set]
  refine q02 3 (v:= ?_) rfl (by kernel_rfl) (fun _ _ _ h=>h) rfl ?_ ‹_› ?_
  rotate_left
  ·intro wq hwq
   first|(go_simp;done)|(go_simp;with_reducible rfl)
  try simp only[aput,List.set]
  refine q02 4 (v:= ?_) rfl (by kernel_rfl) (fun _ _ _ h=>h) rfl ?_ ‹_› ?_
  rotate_left
  ·intro wq hwq
   first|(go_simp;done)|(go_simp;with_reducible rfl)
  try simp only[aput,List.set]
  refine q02 5 (v:= ?_) rfl (by kernel_rfl) (fun _ _ _ h=>h) rfl ?_ ‹_› ?_
  rotate_left
  ·intro wq hwq
   first|(go_simp;done)|(go_simp;with_reducible rfl)
  try simp only[aput,List.set]
  refine q02 9 (v:= ?_) rfl (by kernel_rfl) (fun _ _ _ h=>h) rfl ?_ ‹_› ?_
  rotate_left
  ·intro wq hwq
   first|(go_simp;done)|(go_simp;with_reducible rfl)
  try simp only[aput,List.set]
  refine q02 10 (v:= ?_) rfl (by kernel_rfl) (fun _ _ _ h=>h) rfl ?_ ‹_› ?_
  rotate_left
  ·intro wq hwq
   first|(go_simp;done)|(go_simp;with_reducible rfl)
  try simp only[aput,List.set]
  refine q02 11 (v:= ?_) rfl (by kernel_rfl) (fun _ _ _ h=>h) rfl ?_ ‹_› ?_
  rotate_left
  ·intro wq hwq
   first|(go_simp;done)|(go_simp;with_reducible rfl)
  try simp only[aput,List.set]
  refine q02 12 (v:= ?_) rfl (by kernel_rfl) (fun _ _ _ h=>h) rfl ?_ ‹_› ?_
  rotate_left
  ·intro wq hwq
   first|(go_simp;done)|(go_simp;with_reducible rfl)
  try simp only[aput,List.set]
  show q0C _ _ _ _ _ _ _ _ _ w.drew
  have hS5:=bS
  generalize w.drew=w5 at *
  clear bS
  apply share
  intro fV
  apply share
  intro fG
  apply share
  intro iC
  apply share
  intro ku
  apply share
  intro dK
  apply share
  intro iD
  apply share
  intro lN
  apply share
  intro fH
  apply share
  intro lQ
  apply share
  intro lS
  apply share
  intro lT
  apply share
  intro iZ
  apply share
  intro vT
  apply share
  intro vU
  apply share
  intro vV
  apply share
  intro lU
  apply share
  intro oZ
  apply share
  intro p8
  refine q3f (i:=0) (j:=1) (l:=6) (m:=8) (by kernel_rfl) rfl rfl rfl rfl ?_ ?_ ?_ ?_
  ·skip
   intro K hK
   go_simp
   refine hK.out _ _ (Or.inr (hS5.alloc _)) ?_
   clear hK K
   have hn:=NI.new hS5 38
   have hal:=(G.refl w5).alloc (.cells #[.bool false,.slice none 0 0] 38)
   have aI:=G.trans hS5 hal
   generalize w5.heap.size=p0 at *
   generalize w5.alloc (.cells #[.bool false,.slice none 0 0] 38)=w6 at *
   have kV:=hid hn
   clear hn hal
   refine q0l (i:=1) (j:=6) (l:=8) (by kernel_rfl) rfl rfl rfl ?_ ?_ ?_
   ·skip
    intro K hK
    go_simp
    refine hK.out _ _ (Or.inr (aI.alloc _)) ?_
    clear hK K
    have hn:=NI.new aI 38
    have hal:=(G.refl w6).alloc (.cells #[.bool false,.slice none 0 0] 38)
    have aA:=G.trans aI hal
    have dz:=hid (kV.out.G hal)
    have ax:w6.heap.size≠p0:=by have:=kV.out.2.1;omega
    generalize w6.heap.size=p1 at *
    generalize w6.alloc (.cells #[.bool false,.slice none 0 0] 38)=w7 at *
    have aY:=hid hn
    have ag:Hid (p0≠p1):=ax.symm
    have ah:Hid (p1≠p0):=ax
    clear hn hal aI kV ax
    refine q00 (l':=#[true,true,true,true,true,true,false,false,false,true,true,true,true,false,false,false,false]) (by kernel_rfl) ?_
    revert ah
    revert ag
    revert aY
    revert dz
    revert aA
    revert p1
    revert p0
    revert w7
    exact vT.out
   ·skip
    intro K hK
    go_simp
    go_wp2_with (go_at_call 50;refine Calls.mono (P:=Tryz.prog) (q21 w6 b2 ya yb dJ (kH.out.G hby aI)) ?_;rintro e w7 ⟨rfl,hg⟩)
    refine hK.out _ _ (Or.inr (G.trans aI hg)) ?_
    clear hK K
    have aA:=G.trans aI hg
    have dz:=hid (kV.out.G hg)
    clear hg aI kV
    refine q00 (l':=#[true,false,true,true,true,true,true,false,false,true,true,true,true,false,false,false,false]) (by kernel_rfl) ?_
    revert dz
    revert aA
    revert p0
    revert w7
    exact vV.out
   ·skip
    intro K hK
    go_simp
    refine hK.out _ _ (Or.inr (aI.alloc _)) ?_
    clear hK K
    have hn:=NI.new aI 38
    have hal:=(G.refl w6).alloc (.cells #[.bool false,.slice none 0 0] 38)
    have aA:=G.trans aI hal
    have dz:=hid (kV.out.G hal)
    have ax:w6.heap.size≠p0:=by have:=kV.out.2.1;omega
    generalize w6.heap.size=p2 at *
    generalize w6.alloc (.cells #[.bool false,.slice none 0 0] 38)=w7 at *
    have bM:=hid hn
    have ai:Hid (p0≠p2):=ax.symm
    have aj:Hid (p2≠p0):=ax
    clear hn hal aI kV ax
    refine q00 (l':=#[true,false,true,true,true,true,false,false,true,true,true,true,true,false,false,false,false]) (by kernel_rfl) ?_
    revert aj
    revert ai
    revert bM
    revert dz
    revert aA
    revert p2
    revert p0
    revert w7
    exact vU.out
  ·skip
   intro K hK
   go_simp
   refine hK.out _ _ (Or.inr (hS5.alloc _)) ?_
   clear hK K
   have hn:=NI.new hS5 38
   have hal:=(G.refl w5).alloc (.cells #[.bool false,.slice none 0 0] 38)
   have aI:=G.trans hS5 hal
   generalize w5.heap.size=p1 at *
   generalize w5.alloc (.cells #[.bool false,.slice none 0 0] 38)=w6 at *
   have jM:=hid hn
   clear hn hal
   refine q0l (i:=0) (j:=6) (l:=8) (by kernel_rfl) rfl rfl rfl ?_ ?_ ?_
   ·skip
    intro K hK
    go_simp
    refine hK.out _ _ (Or.inr (aI.alloc _)) ?_
    clear hK K
    have hn:=NI.new aI 38
    have hal:=(G.refl w6).alloc (.cells #[.bool false,.slice none 0 0] 38)
    have aA:=G.trans aI hal
    have aY:=hid (jM.out.G hal)
    have af:w6.heap.size≠p1:=by have:=jM.out.2.1;omega
    generalize w6.heap.size=p0 at *
    generalize w6.alloc (.cells #[.bool false,.slice none 0 0] 38)=w7 at *
    have dz:=hid hn
    have ah:Hid (p1≠p0):=af.symm
    have ag:Hid (p0≠p1):=af
    clear hn hal aI jM af
    refine q00 (l':=#[true,true,true,true,true,true,false,false,false,true,true,true,true,false,false,false,false]) (by kernel_rfl) ?_
    revert ah
    revert ag
    revert aY
    revert dz
    revert aA
    revert p1
    revert p0
    revert w7
    exact vT.out
   ·skip
    intro K hK
    go_simp
    go_wp2_with (go_at_call 50;refine Calls.mono (P:=Tryz.prog) (q21 w6 b2 ya yb dJ (kH.out.G hby aI)) ?_;rintro e w7 ⟨rfl,hg⟩)
    refine hK.out _ _ (Or.inr (G.trans aI hg)) ?_
    clear hK K
    have aA:=G.trans aI hg
    have aY:=hid (jM.out.G hg)
    clear hg aI jM
    refine q00 (l':=#[false,true,true,true,true,true,true,false,false,true,true,true,true,false,false,false,false]) (by kernel_rfl) ?_
    revert aY
    revert aA
    revert p1
    revert w7
    exact oZ.out
   ·skip
    intro K hK
    go_simp
    refine hK.out _ _ (Or.inr (aI.alloc _)) ?_
    clear hK K
    have hn:=NI.new aI 38
    have hal:=(G.refl w6).alloc (.cells #[.bool false,.slice none 0 0] 38)
    have aA:=G.trans aI hal
    have aY:=hid (jM.out.G hal)
    have af:w6.heap.size≠p1:=by have:=jM.out.2.1;omega
    generalize w6.heap.size=p2 at *
    generalize w6.alloc (.cells #[.bool false,.slice none 0 0] 38)=w7 at *
    have bM:=hid hn
    have aa:Hid (p1≠p2):=af.symm
    have ae:Hid (p2≠p1):=af
    clear hn hal aI jM af
    refine q00 (l':=#[false,true,true,true,true,true,false,false,true,true,true,true,true,false,false,false,false]) (by kernel_rfl) ?_
    revert aa
    revert ae
    revert bM
    revert aY
    revert aA
    revert p2
    revert p1
    revert w7
    exact lU.out
  ·skip
   intro K hK
   go_simp
   go_wp2_with (go_at_call 50;refine Calls.mono (P:=Tryz.prog) (q21 w5 b2 ya yb dJ (kH.out.G hby hS5)) ?_;rintro e w6 ⟨rfl,hg⟩)
   refine hK.out _ _ (Or.inr (G.trans hS5 hg)) ?_
   clear hK K
   have aI:=G.trans hS5 hg
   clear hg
   refine q0l (i:=0) (j:=1) (l:=8) (by kernel_rfl) rfl rfl rfl ?_ ?_ ?_
   ·skip
    intro K hK
    go_simp
    refine hK.out _ _ (Or.inr (aI.alloc _)) ?_
    clear hK K
    have hn:=NI.new aI 38
    have hal:=(G.refl w6).alloc (.cells #[.bool false,.slice none 0 0] 38)
    have aA:=G.trans aI hal
    generalize w6.heap.size=p0 at *
    generalize w6.alloc (.cells #[.bool false,.slice none 0 0] 38)=w7 at *
    have dz:=hid hn
    clear hn hal aI
    refine q00 (l':=#[true,false,true,true,true,true,true,false,false,true,true,true,true,false,false,false,false]) (by kernel_rfl) ?_
    revert dz
    revert aA
    revert p0
    revert w7
    exact vV.out
   ·skip
    intro K hK
    go_simp
    refine hK.out _ _ (Or.inr (aI.alloc _)) ?_
    clear hK K
    have hn:=NI.new aI 38
    have hal:=(G.refl w6).alloc (.cells #[.bool false,.slice none 0 0] 38)
    have aA:=G.trans aI hal
    generalize w6.heap.size=p1 at *
    generalize w6.alloc (.cells #[.bool false,.slice none 0 0] 38)=w7 at *
    have aY:=hid hn
    clear hn hal aI
    refine q00 (l':=#[false,true,true,true,true,true,true,false,false,true,true,true,true,false,false,false,false]) (by kernel_rfl) ?_
    revert aY
    revert aA
    revert p1
    revert w7
    exact oZ.out
   ·skip
    intro K hK
    go_simp
    refine hK.out _ _ (Or.inr (aI.alloc _)) ?_
    clear hK K
    have hn:=NI.new aI 38
    have hal:=(G.refl w6).alloc (.cells #[.bool false,.slice none 0 0] 38)
    have aA:=G.trans aI hal
    generalize w6.heap.size=p2 at *
    generalize w6.alloc (.cells #[.bool false,.slice none 0 0] 38)=w7 at *
    have bM:=hid hn
    clear hn hal aI
    refine q00 (l':=#[false,false,true,true,true,true,true,false,true,true,true,true,true,false,false,false,false]) (by kernel_rfl) ?_
    revert bM
    revert aA
    revert p2
    revert w7
    exact p8.out
  ·skip
   intro K hK
   go_simp
   refine hK.out _ _ (Or.inr (hS5.alloc _)) ?_
   clear hK K
   have hn:=NI.new hS5 38
   have hal:=(G.refl w5).alloc (.cells #[.bool false,.slice none 0 0] 38)
   have aI:=G.trans hS5 hal
   generalize w5.heap.size=p2 at *
   generalize w5.alloc (.cells #[.bool false,.slice none 0 0] 38)=w6 at *
   have kI:=hid hn
   clear hn hal
   refine q0l (i:=0) (j:=1) (l:=6) (by kernel_rfl) rfl rfl rfl ?_ ?_ ?_
   ·skip
    intro K hK
    go_simp
    refine hK.out _ _ (Or.inr (aI.alloc _)) ?_
    clear hK K
    have hn:=NI.new aI 38
    have hal:=(G.refl w6).alloc (.cells #[.bool false,.slice none 0 0] 38)
    have aA:=G.trans aI hal
    have bM:=hid (kI.out.G hal)
    have au:w6.heap.size≠p2:=by have:=kI.out.2.1;omega
    generalize w6.heap.size=p0 at *
    generalize w6.alloc (.cells #[.bool false,.slice none 0 0] 38)=w7 at *
    have dz:=hid hn
    have aj:Hid (p2≠p0):=au.symm
    have ai:Hid (p0≠p2):=au
    clear hn hal aI kI au
    refine q00 (l':=#[true,false,true,true,true,true,false,false,true,true,true,true,true,false,false,false,false]) (by kernel_rfl) ?_
    revert aj
    revert ai
    revert bM
    revert dz
    revert aA
    revert p2
    revert p0
    revert w7
    exact vU.out
   ·skip
    intro K hK
    go_simp
    refine hK.out _ _ (Or.inr (aI.alloc _)) ?_
    clear hK K
    have hn:=NI.new aI 38
    have hal:=(G.refl w6).alloc (.cells #[.bool false,.slice none 0 0] 38)
    have aA:=G.trans aI hal
    have bM:=hid (kI.out.G hal)
    have au:w6.heap.size≠p2:=by have:=kI.out.2.1;omega
    generalize w6.heap.size=p1 at *
    generalize w6.alloc (.cells #[.bool false,.slice none 0 0] 38)=w7 at *
    have aY:=hid hn
    have ae:Hid (p2≠p1):=au.symm
    have aa:Hid (p1≠p2):=au
    clear hn hal aI kI au
    refine q00 (l':=#[false,true,true,true,true,true,false,false,true,true,true,true,true,false,false,false,false]) (by kernel_rfl) ?_
    revert aa
    revert ae
    revert bM
    revert aY
    revert aA
    revert p2
    revert p1
    revert w7
    exact lU.out
   ·skip
    intro K hK
    go_simp
    go_wp2_with (go_at_call 50;refine Calls.mono (P:=Tryz.prog) (q21 w6 b2 ya yb dJ (kH.out.G hby aI)) ?_;rintro e w7 ⟨rfl,hg⟩)
    refine hK.out _ _ (Or.inr (G.trans aI hg)) ?_
    clear hK K
    have aA:=G.trans aI hg
    have bM:=hid (kI.out.G hg)
    clear hg aI kI
    refine q00 (l':=#[false,false,true,true,true,true,true,false,true,true,true,true,true,false,false,false,false]) (by kernel_rfl) ?_
    revert bM
    revert aA
    revert p2
    revert w7
    exact p8.out
  refine Later.mk ?_
  intro w7 p2 aA bM
  refine q07 (i:=0) (j:=1) (by kernel_rfl) rfl rfl ?_ ?_
  ·skip
   intro K hK
   go_simp
   refine hK.out _ _ (Or.inr (aA.alloc _)) ?_
   clear hK K
   have hn:=NI.new aA 38
   have hal:=(G.refl w7).alloc (.cells #[.bool false,.slice none 0 0] 38)
   have aG:=G.trans aA hal
   have bY:=hid (bM.out.G hal)
   have au:w7.heap.size≠p2:=by have:=bM.out.2.1;omega
   generalize w7.heap.size=p0 at *
   generalize w7.alloc (.cells #[.bool false,.slice none 0 0] 38)=w8 at *
   have dB:=hid hn
   have aj:Hid (p2≠p0):=au.symm
   have ai:Hid (p0≠p2):=au
   clear hn hal aA bM au
   refine q00 (l':=#[true,false,true,true,true,true,true,false,true,true,true,true,true,false,false,false,false]) (by kernel_rfl) ?_
   revert aj
   revert ai
   revert bY
   revert dB
   revert aG
   revert p2
   revert p0
   revert w8
   exact lT.out
  ·skip
   intro K hK
   go_simp
   refine hK.out _ _ (Or.inr (aA.alloc _)) ?_
   clear hK K
   have hn:=NI.new aA 38
   have hal:=(G.refl w7).alloc (.cells #[.bool false,.slice none 0 0] 38)
   have aG:=G.trans aA hal
   have bY:=hid (bM.out.G hal)
   have au:w7.heap.size≠p2:=by have:=bM.out.2.1;omega
   generalize w7.heap.size=p1 at *
   generalize w7.alloc (.cells #[.bool false,.slice none 0 0] 38)=w8 at *
   have aO:=hid hn
   have ae:Hid (p2≠p1):=au.symm
   have aa:Hid (p1≠p2):=au
   clear hn hal aA bM au
   refine q00 (l':=#[false,true,true,true,true,true,true,false,true,true,true,true,true,false,false,false,false]) (by kernel_rfl) ?_
   revert aa
   revert ae
   revert bY
   revert aO
   revert aG
   revert p2
   revert p1
   revert w8
   exact iZ.out
  refine Later.mk ?_
  intro w7 p1 aA aY
  refine q0l (i:=0) (j:=7) (l:=8) (by kernel_rfl) rfl rfl rfl ?_ ?_ ?_
  ·skip
   intro K hK
   go_simp
   refine hK.out _ _ (Or.inr (aA.alloc _)) ?_
   clear hK K
   have hn:=NI.new aA 38
   have hal:=(G.refl w7).alloc (.cells #[.bool false,.slice none 0 0] 38)
   have aG:=G.trans aA hal
   have aO:=hid (aY.out.G hal)
   have af:w7.heap.size≠p1:=by have:=aY.out.2.1;omega
   generalize w7.heap.size=p0 at *
   generalize w7.alloc (.cells #[.bool false,.slice none 0 0] 38)=w8 at *
   have dB:=hid hn
   have ah:Hid (p1≠p0):=af.symm
   have ag:Hid (p0≠p1):=af
   clear hn hal aA aY af
   refine q00 (l':=#[true,true,true,true,true,true,true,false,false,true,true,true,true,false,false,false,false]) (by kernel_rfl) ?_
   revert ah
   revert ag
   revert aO
   revert dB
   revert aG
   revert p1
   revert p0
   revert w8
   exact lS.out
  ·skip
   intro K hK
   go_simp
   have dL:Hid _:=q0Y w7 p1 0 bx 0 b2 2 0 xa yb KB (by omega) jh.out iY.out aY.out.2.1 (G.lt aA hbx) (G.lt aA hby) aY.out.2.2 (IntIs.G HX0.out hbx aA) (IntIs.G FX.out hby aA)
   go_wp2_with (go_at_call 49;refine Calls.mono (P:=Tryz.prog) dL.out ?_;intro e w8 hx;obtain⟨rfl,aG,hl,-,hkp⟩:=SetTo.step aA aY.out hx)
   have aO:=hid hl
   refine hK.out _ _ (Or.inr aG) ?_
   clear hK K hx hl hkp dL aA aY
   refine q0l (i:=0) (j:=8) (l:=13) (by kernel_rfl) rfl rfl rfl ?_ ?_ ?_
   ·skip
    intro K hK
    go_simp
    refine hK.out _ _ (Or.inr (aG.alloc _)) ?_
    clear hK K
    have hn:=NI.new aG 38
    have hal:=(G.refl w8).alloc (.cells #[.bool false,.slice none 0 0] 38)
    have aJ:=G.trans aG hal
    have aT:=hid (aO.out.G hal)
    have af:w8.heap.size≠p1:=by have:=aO.out.2.1;omega
    generalize w8.heap.size=p0 at *
    generalize w8.alloc (.cells #[.bool false,.slice none 0 0] 38)=w9 at *
    have fO:=hid hn
    have ah:Hid (p1≠p0):=af.symm
    have ag:Hid (p0≠p1):=af
    clear hn hal aG aO af
    refine q00 (l':=#[true,true,true,true,true,true,true,true,false,true,true,true,true,false,false,false,false]) (by kernel_rfl) ?_
    revert ah
    revert ag
    revert aT
    revert fO
    revert aJ
    revert p1
    revert p0
    revert w9
    exact lN.out
   ·skip
    intro K hK
    go_simp
    refine hK.out _ _ (Or.inr (aG.alloc _)) ?_
    clear hK K
    have hn:=NI.new aG 38
    have hal:=(G.refl w8).alloc (.cells #[.bool false,.slice none 0 0] 38)
    have aJ:=G.trans aG hal
    have aT:=hid (aO.out.G hal)
    have af:w8.heap.size≠p1:=by have:=aO.out.2.1;omega
    generalize w8.heap.size=p2 at *
    generalize w8.alloc (.cells #[.bool false,.slice none 0 0] 38)=w9 at *
    have dR:=hid hn
    have aa:Hid (p1≠p2):=af.symm
    have ae:Hid (p2≠p1):=af
    clear hn hal aG aO af
    refine q00 (l':=#[false,true,true,true,true,true,true,true,true,true,true,true,true,false,false,false,false]) (by kernel_rfl) ?_
    revert aa
    revert ae
    revert dR
    revert aT
    revert aJ
    revert p2
    revert p1
    revert w9
    exact fH.out
   ·skip
    intro K hK
    go_simp
    go_wp2_with (go_at_call 50;refine Calls.mono (P:=Tryz.prog) (q21 w8 bx xa xb iB (nJ.out.G hbx aG)) ?_;rintro e w9 ⟨rfl,hg⟩)
    refine hK.out _ _ (Or.inr (G.trans aG hg)) ?_
    clear hK K
    have aJ:=G.trans aG hg
    have aT:=hid (aO.out.G hg)
    clear hg aG aO
    refine q07 (i:=0) (j:=8) (by kernel_rfl) rfl rfl ?_ ?_
    ·skip
     intro K hK
     go_simp
     refine hK.out _ _ (Or.inr (aJ.alloc _)) ?_
     clear hK K
     have hn:=NI.new aJ 38
     have hal:=(G.refl w9).alloc (.cells #[.bool false,.slice none 0 0] 38)
     have aF:=G.trans aJ hal
     have aM:=hid (aT.out.G hal)
     have af:w9.heap.size≠p1:=by have:=aT.out.2.1;omega
     generalize w9.heap.size=p0 at *
     generalize w9.alloc (.cells #[.bool false,.slice none 0 0] 38)=aS at *
     have dh:=hid hn
     have ah:Hid (p1≠p0):=af.symm
     have ag:Hid (p0≠p1):=af
     clear hn hal aJ aT af
     refine q00 (l':=#[true,true,true,true,true,true,true,true,false,true,true,true,true,true,false,false,false]) (by kernel_rfl) ?_
     revert ah
     revert ag
     revert aM
     revert dh
     revert aF
     revert p1
     revert p0
     revert aS
     exact ku.out
    ·skip
     intro K hK
     go_simp
     refine hK.out _ _ (Or.inr (aJ.alloc _)) ?_
     clear hK K
     have hn:=NI.new aJ 38
     have hal:=(G.refl w9).alloc (.cells #[.bool false,.slice none 0 0] 38)
     have aF:=G.trans aJ hal
     have aM:=hid (aT.out.G hal)
     have af:w9.heap.size≠p1:=by have:=aT.out.2.1;omega
     generalize w9.heap.size=p2 at *
     generalize w9.alloc (.cells #[.bool false,.slice none 0 0] 38)=aS at *
     have aP:=hid hn
     have aa:Hid (p1≠p2):=af.symm
     have ae:Hid (p2≠p1):=af
     clear hn hal aJ aT af
     refine q00 (l':=#[false,true,true,true,true,true,true,true,true,true,true,true,true,true,false,false,false]) (by kernel_rfl) ?_
     revert aa
     revert ae
     revert aP
     revert aM
     revert aF
     revert p2
     revert p1
     revert aS
     exact dK.out
  ·skip
   intro K hK
   go_simp
   refine hK.out _ _ (Or.inr (aA.alloc _)) ?_
   clear hK K
   have hn:=NI.new aA 38
   have hal:=(G.refl w7).alloc (.cells #[.bool false,.slice none 0 0] 38)
   have aG:=G.trans aA hal
   have aO:=hid (aY.out.G hal)
   have af:w7.heap.size≠p1:=by have:=aY.out.2.1;omega
   generalize w7.heap.size=p2 at *
   generalize w7.alloc (.cells #[.bool false,.slice none 0 0] 38)=w8 at *
   have bY:=hid hn
   have aa:Hid (p1≠p2):=af.symm
   have ae:Hid (p2≠p1):=af
   clear hn hal aA aY af
   refine q00 (l':=#[false,true,true,true,true,true,true,false,true,true,true,true,true,false,false,false,false]) (by kernel_rfl) ?_
   revert aa
   revert ae
   revert bY
   revert aO
   revert aG
   revert p2
   revert p1
   revert w8
   exact iZ.out
  refine Later.mk ?_
  intro w7 p1 p2 aA aY bM ae aa
  refine q07 (i:=0) (j:=6) (by kernel_rfl) rfl rfl ?_ ?_
  ·skip
   intro K hK
   go_simp
   refine hK.out _ _ (Or.inr (aA.alloc _)) ?_
   clear hK K
   have hn:=NI.new aA 38
   have hal:=(G.refl w7).alloc (.cells #[.bool false,.slice none 0 0] 38)
   have aG:=G.trans aA hal
   have aO:=hid (aY.out.G hal)
   have bY:=hid (bM.out.G hal)
   have af:w7.heap.size≠p1:=by have:=aY.out.2.1;omega
   have au:w7.heap.size≠p2:=by have:=bM.out.2.1;omega
   generalize w7.heap.size=p0 at *
   generalize w7.alloc (.cells #[.bool false,.slice none 0 0] 38)=w8 at *
   have dB:=hid hn
   have ah:Hid (p1≠p0):=af.symm
   have ag:Hid (p0≠p1):=af
   have aj:Hid (p2≠p0):=au.symm
   have ai:Hid (p0≠p2):=au
   clear hn hal aA aY bM af au
   refine q00 (l':=#[true,true,true,true,true,true,false,false,true,true,true,true,true,false,false,false,false]) (by kernel_rfl) ?_
   revert aj
   revert ah
   revert aa
   revert ai
   revert ae
   revert ag
   revert bY
   revert aO
   revert dB
   revert aG
   revert p2
   revert p1
   revert p0
   revert w8
   exact lQ.out
  ·skip
   intro K hK
   go_simp
   go_wp2_with (go_at_call 50;refine Calls.mono (P:=Tryz.prog) (q21 w7 b2 ya yb dJ (kH.out.G hby aA)) ?_;rintro e w8 ⟨rfl,hg⟩)
   refine hK.out _ _ (Or.inr (G.trans aA hg)) ?_
   clear hK K
   have aG:=G.trans aA hg
   have aO:=hid (aY.out.G hg)
   have bY:=hid (bM.out.G hg)
   clear hg aA aY bM
   refine q00 (l':=#[false,true,true,true,true,true,true,false,true,true,true,true,true,false,false,false,false]) (by kernel_rfl) ?_
   revert aa
   revert ae
   revert bY
   revert aO
   revert aG
   revert p2
   revert p1
   revert w8
   exact iZ.out
  refine Later.mk ?_
  intro w7 p0 aA dz
  refine q07 (i:=1) (j:=8) (by kernel_rfl) rfl rfl ?_ ?_
  ·skip
   intro K hK
   go_simp
   refine hK.out _ _ (Or.inr (aA.alloc _)) ?_
   clear hK K
   have hn:=NI.new aA 38
   have hal:=(G.refl w7).alloc (.cells #[.bool false,.slice none 0 0] 38)
   have aG:=G.trans aA hal
   have dB:=hid (dz.out.G hal)
   have ax:w7.heap.size≠p0:=by have:=dz.out.2.1;omega
   generalize w7.heap.size=p1 at *
   generalize w7.alloc (.cells #[.bool false,.slice none 0 0] 38)=w8 at *
   have aO:=hid hn
   have ag:Hid (p0≠p1):=ax.symm
   have ah:Hid (p1≠p0):=ax
   clear hn hal aA dz ax
   refine q00 (l':=#[true,true,true,true,true,true,true,false,false,true,true,true,true,false,false,false,false]) (by kernel_rfl) ?_
   revert ah
   revert ag
   revert aO
   revert dB
   revert aG
   revert p1
   revert p0
   revert w8
   exact lS.out
  ·skip
   intro K hK
   go_simp
   refine hK.out _ _ (Or.inr (aA.alloc _)) ?_
   clear hK K
   have hn:=NI.new aA 38
   have hal:=(G.refl w7).alloc (.cells #[.bool false,.slice none 0 0] 38)
   have aG:=G.trans aA hal
   have dB:=hid (dz.out.G hal)
   have ax:w7.heap.size≠p0:=by have:=dz.out.2.1;omega
   generalize w7.heap.size=p2 at *
   generalize w7.alloc (.cells #[.bool false,.slice none 0 0] 38)=w8 at *
   have bY:=hid hn
   have ai:Hid (p0≠p2):=ax.symm
   have aj:Hid (p2≠p0):=ax
   clear hn hal aA dz ax
   refine q00 (l':=#[true,false,true,true,true,true,true,false,true,true,true,true,true,false,false,false,false]) (by kernel_rfl) ?_
   revert aj
   revert ai
   revert bY
   revert dB
   revert aG
   revert p2
   revert p0
   revert w8
   exact lT.out
  refine Later.mk ?_
  intro w7 p0 p2 aA dz bM ai aj
  refine q07 (i:=1) (j:=6) (by kernel_rfl) rfl rfl ?_ ?_
  ·skip
   intro K hK
   go_simp
   refine hK.out _ _ (Or.inr (aA.alloc _)) ?_
   clear hK K
   have hn:=NI.new aA 38
   have hal:=(G.refl w7).alloc (.cells #[.bool false,.slice none 0 0] 38)
   have aG:=G.trans aA hal
   have dB:=hid (dz.out.G hal)
   have bY:=hid (bM.out.G hal)
   have ax:w7.heap.size≠p0:=by have:=dz.out.2.1;omega
   have au:w7.heap.size≠p2:=by have:=bM.out.2.1;omega
   generalize w7.heap.size=p1 at *
   generalize w7.alloc (.cells #[.bool false,.slice none 0 0] 38)=w8 at *
   have aO:=hid hn
   have ag:Hid (p0≠p1):=ax.symm
   have ah:Hid (p1≠p0):=ax
   have ae:Hid (p2≠p1):=au.symm
   have aa:Hid (p1≠p2):=au
   clear hn hal aA dz bM ax au
   refine q00 (l':=#[true,true,true,true,true,true,false,false,true,true,true,true,true,false,false,false,false]) (by kernel_rfl) ?_
   revert aj
   revert ah
   revert aa
   revert ai
   revert ae
   revert ag
   revert bY
   revert aO
   revert dB
   revert aG
   revert p2
   revert p1
   revert p0
   revert w8
   exact lQ.out
  ·skip
   intro K hK
   go_simp
   go_wp2_with (go_at_call 50;refine Calls.mono (P:=Tryz.prog) (q21 w7 b2 ya yb dJ (kH.out.G hby aA)) ?_;rintro e w8 ⟨rfl,hg⟩)
   refine hK.out _ _ (Or.inr (G.trans aA hg)) ?_
   clear hK K
   have aG:=G.trans aA hg
   have dB:=hid (dz.out.G hg)
   have bY:=hid (bM.out.G hg)
   clear hg aA dz bM
   refine q00 (l':=#[true,false,true,true,true,true,true,false,true,true,true,true,true,false,false,false,false]) (by kernel_rfl) ?_
   revert aj
   revert ai
   revert bY
   revert dB
   revert aG
   revert p2
   revert p0
   revert w8
   exact lT.out
  refine Later.mk ?_
  intro w7 p0 p1 aA dz aY ag ah
  refine q07 (i:=6) (j:=8) (by kernel_rfl) rfl rfl ?_ ?_
  ·skip
   intro K hK
   go_simp
   go_wp2_with (go_at_call 50;refine Calls.mono (P:=Tryz.prog) (q21 w7 b2 ya yb dJ (kH.out.G hby aA)) ?_;rintro e w8 ⟨rfl,hg⟩)
   refine hK.out _ _ (Or.inr (G.trans aA hg)) ?_
   clear hK K
   have aG:=G.trans aA hg
   have dB:=hid (dz.out.G hg)
   have aO:=hid (aY.out.G hg)
   clear hg aA dz aY
   refine q00 (l':=#[true,true,true,true,true,true,true,false,false,true,true,true,true,false,false,false,false]) (by kernel_rfl) ?_
   revert ah
   revert ag
   revert aO
   revert dB
   revert aG
   revert p1
   revert p0
   revert w8
   exact lS.out
  ·skip
   intro K hK
   go_simp
   refine hK.out _ _ (Or.inr (aA.alloc _)) ?_
   clear hK K
   have hn:=NI.new aA 38
   have hal:=(G.refl w7).alloc (.cells #[.bool false,.slice none 0 0] 38)
   have aG:=G.trans aA hal
   have dB:=hid (dz.out.G hal)
   have aO:=hid (aY.out.G hal)
   have ax:w7.heap.size≠p0:=by have:=dz.out.2.1;omega
   have af:w7.heap.size≠p1:=by have:=aY.out.2.1;omega
   generalize w7.heap.size=p2 at *
   generalize w7.alloc (.cells #[.bool false,.slice none 0 0] 38)=w8 at *
   have bY:=hid hn
   have ai:Hid (p0≠p2):=ax.symm
   have aj:Hid (p2≠p0):=ax
   have aa:Hid (p1≠p2):=af.symm
   have ae:Hid (p2≠p1):=af
   clear hn hal aA dz aY ax af
   refine q00 (l':=#[true,true,true,true,true,true,false,false,true,true,true,true,true,false,false,false,false]) (by kernel_rfl) ?_
   revert aj
   revert ah
   revert aa
   revert ai
   revert ae
   revert ag
   revert bY
   revert aO
   revert dB
   revert aG
   revert p2
   revert p1
   revert p0
   revert w8
   exact lQ.out
  refine Later.mk ?_
  intro w8 p1 p2 aG aO bY ae aa
  refine q07 (i:=0) (j:=7) (by kernel_rfl) rfl rfl ?_ ?_
  ·skip
   intro K hK
   go_simp
   refine hK.out _ _ (Or.inr (aG.alloc _)) ?_
   clear hK K
   have hn:=NI.new aG 38
   have hal:=(G.refl w8).alloc (.cells #[.bool false,.slice none 0 0] 38)
   have aJ:=G.trans aG hal
   have aT:=hid (aO.out.G hal)
   have dR:=hid (bY.out.G hal)
   have af:w8.heap.size≠p1:=by have:=aO.out.2.1;omega
   have au:w8.heap.size≠p2:=by have:=bY.out.2.1;omega
   generalize w8.heap.size=p0 at *
   generalize w8.alloc (.cells #[.bool false,.slice none 0 0] 38)=w9 at *
   have fO:=hid hn
   have ah:Hid (p1≠p0):=af.symm
   have ag:Hid (p0≠p1):=af
   have aj:Hid (p2≠p0):=au.symm
   have ai:Hid (p0≠p2):=au
   clear hn hal aG aO bY af au
   refine q00 (l':=#[true,true,true,true,true,true,true,false,true,true,true,true,true,false,false,false,false]) (by kernel_rfl) ?_
   revert aj
   revert ah
   revert aa
   revert ai
   revert ae
   revert ag
   revert dR
   revert aT
   revert fO
   revert aJ
   revert p2
   revert p1
   revert p0
   revert w9
   exact iD.out
  ·skip
   intro K hK
   go_simp
   have dL:Hid _:=q0Y w8 p1 0 bx 0 b2 2 0 xa yb KB (by omega) jh.out iY.out aO.out.2.1 (G.lt aG hbx) (G.lt aG hby) aO.out.2.2 (IntIs.G HX0.out hbx aG) (IntIs.G FX.out hby aG)
   go_wp2_with (go_at_call 49;refine Calls.mono (P:=Tryz.prog) dL.out ?_;intro e w9 hx;obtain⟨rfl,aJ,hl,-,hkp⟩:=SetTo.step aG aO.out hx)
   have aT:=hid hl
   have dR:=hid (hkp _ _ ae.out bY.out)
   refine hK.out _ _ (Or.inr aJ) ?_
   clear hK K hx hl hkp dL aG aO bY
   refine q00 (l':=#[false,true,true,true,true,true,true,true,true,true,true,true,true,false,false,false,false]) (by kernel_rfl) ?_
   revert aa
   revert ae
   revert dR
   revert aT
   revert aJ
   revert p2
   revert p1
   revert w9
   exact fH.out
  refine Later.mk ?_
  intro w8 p0 p2 aG dB bY ai aj
  refine q03 (i:=1) (by kernel_rfl) rfl ?_
  intro K hK
  go_simp
  refine hK.out _ _ (Or.inr (aG.alloc _)) ?_
  clear hK K
  have hn:=NI.new aG 38
  have hal:=(G.refl w8).alloc (.cells #[.bool false,.slice none 0 0] 38)
  have aJ:=G.trans aG hal
  have fO:=hid (dB.out.G hal)
  have dR:=hid (bY.out.G hal)
  have ax:w8.heap.size≠p0:=by have:=dB.out.2.1;omega
  have au:w8.heap.size≠p2:=by have:=bY.out.2.1;omega
  generalize w8.heap.size=p1 at *
  generalize w8.alloc (.cells #[.bool false,.slice none 0 0] 38)=w9 at *
  have aT:=hid hn
  have ag:Hid (p0≠p1):=ax.symm
  have ah:Hid (p1≠p0):=ax
  have ae:Hid (p2≠p1):=au.symm
  have aa:Hid (p1≠p2):=au
  clear hn hal aG dB bY ax au
  refine q00 (l':=#[true,true,true,true,true,true,true,false,true,true,true,true,true,false,false,false,false]) (by kernel_rfl) ?_
  revert aj
  revert ah
  revert aa
  revert ai
  revert ae
  revert ag
  revert dR
  revert aT
  revert fO
  revert aJ
  revert p2
  revert p1
  revert p0
  revert w9
  exact iD.out
  refine Later.mk ?_
  intro w8 p0 p1 aG dB aO ag ah
  refine q07 (i:=7) (j:=8) (by kernel_rfl) rfl rfl ?_ ?_
  ·skip
   intro K hK
   go_simp
   have dL:Hid _:=q0Y w8 p1 0 bx 0 b2 2 0 xa yb KB (by omega) jh.out iY.out aO.out.2.1 (G.lt aG hbx) (G.lt aG hby) aO.out.2.2 (IntIs.G HX0.out hbx aG) (IntIs.G FX.out hby aG)
   go_wp2_with (go_at_call 49;refine Calls.mono (P:=Tryz.prog) dL.out ?_;intro e w9 hx;obtain⟨rfl,aJ,hl,-,hkp⟩:=SetTo.step aG aO.out hx)
   have aT:=hid hl
   have fO:=hid (hkp _ _ ag.out dB.out)
   refine hK.out _ _ (Or.inr aJ) ?_
   clear hK K hx hl hkp dL aG dB aO
   refine q00 (l':=#[true,true,true,true,true,true,true,true,false,true,true,true,true,false,false,false,false]) (by kernel_rfl) ?_
   revert ah
   revert ag
   revert aT
   revert fO
   revert aJ
   revert p1
   revert p0
   revert w9
   exact lN.out
  ·skip
   intro K hK
   go_simp
   refine hK.out _ _ (Or.inr (aG.alloc _)) ?_
   clear hK K
   have hn:=NI.new aG 38
   have hal:=(G.refl w8).alloc (.cells #[.bool false,.slice none 0 0] 38)
   have aJ:=G.trans aG hal
   have fO:=hid (dB.out.G hal)
   have aT:=hid (aO.out.G hal)
   have ax:w8.heap.size≠p0:=by have:=dB.out.2.1;omega
   have af:w8.heap.size≠p1:=by have:=aO.out.2.1;omega
   generalize w8.heap.size=p2 at *
   generalize w8.alloc (.cells #[.bool false,.slice none 0 0] 38)=w9 at *
   have dR:=hid hn
   have ai:Hid (p0≠p2):=ax.symm
   have aj:Hid (p2≠p0):=ax
   have aa:Hid (p1≠p2):=af.symm
   have ae:Hid (p2≠p1):=af
   clear hn hal aG dB aO ax af
   refine q00 (l':=#[true,true,true,true,true,true,true,false,true,true,true,true,true,false,false,false,false]) (by kernel_rfl) ?_
   revert aj
   revert ah
   revert aa
   revert ai
   revert ae
   revert ag
   revert dR
   revert aT
   revert fO
   revert aJ
   revert p2
   revert p1
   revert p0
   revert w9
   exact iD.out
  refine Later.mk ?_
  intro w8 p0 p1 p2 aG dB aO bY ag ae ai aa ah aj
  refine q03 (i:=6) (by kernel_rfl) rfl ?_
  intro K hK
  go_simp
  go_wp2_with (go_at_call 50;refine Calls.mono (P:=Tryz.prog) (q21 w8 b2 ya yb dJ (kH.out.G hby aG)) ?_;rintro e w9 ⟨rfl,hg⟩)
  refine hK.out _ _ (Or.inr (G.trans aG hg)) ?_
  clear hK K
  have aJ:=G.trans aG hg
  have fO:=hid (dB.out.G hg)
  have aT:=hid (aO.out.G hg)
  have dR:=hid (bY.out.G hg)
  clear hg aG dB aO bY
  refine q00 (l':=#[true,true,true,true,true,true,true,false,true,true,true,true,true,false,false,false,false]) (by kernel_rfl) ?_
  revert aj
  revert ah
  revert aa
  revert ai
  revert ae
  revert ag
  revert dR
  revert aT
  revert fO
  revert aJ
  revert p2
  revert p1
  revert p0
  revert w9
  exact iD.out
  refine Later.mk ?_
  intro w9 p1 p2 aJ aT dR ae aa
  refine q07 (i:=0) (j:=13) (by kernel_rfl) rfl rfl ?_ ?_
  ·skip
   intro K hK
   go_simp
   refine hK.out _ _ (Or.inr (aJ.alloc _)) ?_
   clear hK K
   have hn:=NI.new aJ 38
   have hal:=(G.refl w9).alloc (.cells #[.bool false,.slice none 0 0] 38)
   have aF:=G.trans aJ hal
   have aM:=hid (aT.out.G hal)
   have aP:=hid (dR.out.G hal)
   have af:w9.heap.size≠p1:=by have:=aT.out.2.1;omega
   have au:w9.heap.size≠p2:=by have:=dR.out.2.1;omega
   generalize w9.heap.size=p0 at *
   generalize w9.alloc (.cells #[.bool false,.slice none 0 0] 38)=aS at *
   have dh:=hid hn
   have ah:Hid (p1≠p0):=af.symm
   have ag:Hid (p0≠p1):=af
   have aj:Hid (p2≠p0):=au.symm
   have ai:Hid (p0≠p2):=au
   clear hn hal aJ aT dR af au
   refine q00 (l':=#[true,true,true,true,true,true,true,true,true,true,true,true,true,false,false,false,false]) (by kernel_rfl) ?_
   revert aj
   revert ah
   revert aa
   revert ai
   revert ae
   revert ag
   revert aP
   revert aM
   revert dh
   revert aF
   revert p2
   revert p1
   revert p0
   revert aS
   exact iC.out
  ·skip
   intro K hK
   go_simp
   go_wp2_with (go_at_call 50;refine Calls.mono (P:=Tryz.prog) (q21 w9 bx xa xb iB (nJ.out.G hbx aJ)) ?_;rintro e aS ⟨rfl,hg⟩)
   refine hK.out _ _ (Or.inr (G.trans aJ hg)) ?_
   clear hK K
   have aF:=G.trans aJ hg
   have aM:=hid (aT.out.G hg)
   have aP:=hid (dR.out.G hg)
   clear hg aJ aT dR
   refine q00 (l':=#[false,true,true,true,true,true,true,true,true,true,true,true,true,true,false,false,false]) (by kernel_rfl) ?_
   revert aa
   revert ae
   revert aP
   revert aM
   revert aF
   revert p2
   revert p1
   revert aS
   exact dK.out
  refine Later.mk ?_
  intro w9 p0 p1 aJ fO aT ag ah
  refine q07 (i:=8) (j:=13) (by kernel_rfl) rfl rfl ?_ ?_
  ·skip
   intro K hK
   go_simp
   refine hK.out _ _ (Or.inr (aJ.alloc _)) ?_
   clear hK K
   have hn:=NI.new aJ 38
   have hal:=(G.refl w9).alloc (.cells #[.bool false,.slice none 0 0] 38)
   have aF:=G.trans aJ hal
   have dh:=hid (fO.out.G hal)
   have aM:=hid (aT.out.G hal)
   have ax:w9.heap.size≠p0:=by have:=fO.out.2.1;omega
   have af:w9.heap.size≠p1:=by have:=aT.out.2.1;omega
   generalize w9.heap.size=p2 at *
   generalize w9.alloc (.cells #[.bool false,.slice none 0 0] 38)=aS at *
   have aP:=hid hn
   have ai:Hid (p0≠p2):=ax.symm
   have aj:Hid (p2≠p0):=ax
   have aa:Hid (p1≠p2):=af.symm
   have ae:Hid (p2≠p1):=af
   clear hn hal aJ fO aT ax af
   refine q00 (l':=#[true,true,true,true,true,true,true,true,true,true,true,true,true,false,false,false,false]) (by kernel_rfl) ?_
   revert aj
   revert ah
   revert aa
   revert ai
   revert ae
   revert ag
   revert aP
   revert aM
   revert dh
   revert aF
   revert p2
   revert p1
   revert p0
   revert aS
   exact iC.out
  ·skip
   intro K hK
   go_simp
   go_wp2_with (go_at_call 50;refine Calls.mono (P:=Tryz.prog) (q21 w9 bx xa xb iB (nJ.out.G hbx aJ)) ?_;rintro e aS ⟨rfl,hg⟩)
   refine hK.out _ _ (Or.inr (G.trans aJ hg)) ?_
   clear hK K
   have aF:=G.trans aJ hg
   have dh:=hid (fO.out.G hg)
   have aM:=hid (aT.out.G hg)
   clear hg aJ fO aT
   refine q00 (l':=#[true,true,true,true,true,true,true,true,false,true,true,true,true,true,false,false,false]) (by kernel_rfl) ?_
   revert ah
   revert ag
   revert aM
   revert dh
   revert aF
   revert p1
   revert p0
   revert aS
   exact ku.out
  refine Later.mk ?_
  intro w9 p0 p1 p2 aJ fO aT dR ag ae ai aa ah aj
  refine q03 (i:=7) (by kernel_rfl) rfl ?_
  intro K hK
  go_simp
  have dL:Hid _:=q0Y w9 p1 0 bx 0 b2 2 0 xa yb KB (by omega) jh.out iY.out aT.out.2.1 (G.lt aJ hbx) (G.lt aJ hby) aT.out.2.2 (IntIs.G HX0.out hbx aJ) (IntIs.G FX.out hby aJ)
  go_wp2_with (go_at_call 49;refine Calls.mono (P:=Tryz.prog) dL.out ?_;intro e aS hx;obtain⟨rfl,aF,hl,-,hkp⟩:=SetTo.step aJ aT.out hx)
  have aM:=hid hl
  have dh:=hid (hkp _ _ ag.out fO.out)
  have aP:=hid (hkp _ _ ae.out dR.out)
  refine hK.out _ _ (Or.inr aF) ?_
  clear hK K hx hl hkp dL aJ fO aT dR
  refine q00 (l':=#[true,true,true,true,true,true,true,true,true,true,true,true,true,false,false,false,false]) (by kernel_rfl) ?_
  revert aj
  revert ah
  revert aa
  revert ai
  revert ae
  revert ag
  revert aP
  revert aM
  revert dh
  revert aF
  revert p2
  revert p1
  revert p0
  revert aS
  exact iC.out
  refine Later.mk ?_
  intro aS p1 p2 aF aM aP ae aa
  refine q07 (i:=0) (j:=14) (by kernel_rfl) rfl rfl ?_ ?_
  ·skip
   intro K hK
   go_simp
   refine hK.out _ _ (Or.inr (aF.alloc _)) ?_
   clear hK K
   have hn:=NI.new aF 38
   have hal:=(G.refl aS).alloc (.cells #[.bool false,.slice none 0 0] 38)
   have aR:=G.trans aF hal
   have dI:=hid (aM.out.G hal)
   have dw:=hid (aP.out.G hal)
   have af:aS.heap.size≠p1:=by have:=aM.out.2.1;omega
   have au:aS.heap.size≠p2:=by have:=aP.out.2.1;omega
   generalize aS.heap.size=p0 at *
   generalize aS.alloc (.cells #[.bool false,.slice none 0 0] 38)=bR at *
   have ja:=hid hn
   have ah:Hid (p1≠p0):=af.symm
   have ag:Hid (p0≠p1):=af
   have aj:Hid (p2≠p0):=au.symm
   have ai:Hid (p0≠p2):=au
   clear hn hal aF aM aP af au
   refine q00 (l':=#[true,true,true,true,true,true,true,true,true,true,true,true,true,true,false,false,false]) (by kernel_rfl) ?_
   revert aj
   revert ah
   revert aa
   revert ai
   revert ae
   revert ag
   revert dw
   revert dI
   revert ja
   revert aR
   revert p2
   revert p1
   revert p0
   revert bR
   exact fG.out
  ·skip
   intro K hK
   go_simp
   have dL:Hid _:=q0Y aS p2 0 b2 0 bx 2 0 ya xb KB (by omega) lM.out kQ.out aP.out.2.1 (G.lt aF hby) (G.lt aF hbx) aP.out.2.2 (IntIs.G tq.out hby aF) (IntIs.G F5.out hbx aF)
   go_wp2_with (go_at_call 49;refine Calls.mono (P:=Tryz.prog) dL.out ?_;intro e bR hx;obtain⟨rfl,aR,hl,-,hkp⟩:=SetTo.step aF aP.out hx)
   have dw:=hid hl
   have dI:=hid (hkp _ _ aa.out aM.out)
   refine hK.out _ _ (Or.inr aR) ?_
   clear hK K hx hl hkp dL aF aM aP
   refine q03 (i:=0) (by kernel_rfl) rfl ?_
   intro K hK
   go_simp
   refine hK.out _ _ (Or.inr (aR.alloc _)) ?_
   clear hK K
   have hn:=NI.new aR 38
   have hal:=(G.refl bR).alloc (.cells #[.bool false,.slice none 0 0] 38)
   have iE:=G.trans aR hal
   have fZ:=hid (dI.out.G hal)
   have gp:=hid (dw.out.G hal)
   have af:bR.heap.size≠p1:=by have:=dI.out.2.1;omega
   have au:bR.heap.size≠p2:=by have:=dw.out.2.1;omega
   generalize bR.heap.size=p0 at *
   generalize bR.alloc (.cells #[.bool false,.slice none 0 0] 38)=dQ at *
   have jb:=hid hn
   have ah:Hid (p1≠p0):=af.symm
   have ag:Hid (p0≠p1):=af
   have aj:Hid (p2≠p0):=au.symm
   have ai:Hid (p0≠p2):=au
   clear hn hal aR dI dw af au
   refine q00 (l':=#[true,true,true,true,true,true,true,true,true,true,true,true,true,true,true,false,false]) (by kernel_rfl) ?_
   revert aj
   revert ah
   revert aa
   revert ai
   revert ae
   revert ag
   revert gp
   revert fZ
   revert jb
   revert iE
   revert p2
   revert p1
   revert p0
   revert dQ
   exact fV.out
  refine Later.mk ?_
  intro aS p0 p1 aF dh aM ag ah
  refine q03 (i:=8) (by kernel_rfl) rfl ?_
  intro K hK
  go_simp
  refine hK.out _ _ (Or.inr (aF.alloc _)) ?_
  clear hK K
  have hn:=NI.new aF 38
  have hal:=(G.refl aS).alloc (.cells #[.bool false,.slice none 0 0] 38)
  have aR:=G.trans aF hal
  have ja:=hid (dh.out.G hal)
  have dI:=hid (aM.out.G hal)
  have ax:aS.heap.size≠p0:=by have:=dh.out.2.1;omega
  have af:aS.heap.size≠p1:=by have:=aM.out.2.1;omega
  generalize aS.heap.size=p2 at *
  generalize aS.alloc (.cells #[.bool false,.slice none 0 0] 38)=bR at *
  have dw:=hid hn
  have ai:Hid (p0≠p2):=ax.symm
  have aj:Hid (p2≠p0):=ax
  have aa:Hid (p1≠p2):=af.symm
  have ae:Hid (p2≠p1):=af
  clear hn hal aF dh aM ax af
  refine q00 (l':=#[true,true,true,true,true,true,true,true,true,true,true,true,true,true,false,false,false]) (by kernel_rfl) ?_
  revert aj
  revert ah
  revert aa
  revert ai
  revert ae
  revert ag
  revert dw
  revert dI
  revert ja
  revert aR
  revert p2
  revert p1
  revert p0
  revert bR
  exact fG.out
  refine Later.mk ?_
  intro aS p0 p1 p2 aF dh aM aP ag ae ai aa ah aj
  refine q03 (i:=13) (by kernel_rfl) rfl ?_
  intro K hK
  go_simp
  go_wp2_with (go_at_call 50;refine Calls.mono (P:=Tryz.prog) (q21 aS bx xa xb iB (nJ.out.G hbx aF)) ?_;rintro e bR ⟨rfl,hg⟩)
  refine hK.out _ _ (Or.inr (G.trans aF hg)) ?_
  clear hK K
  have aR:=G.trans aF hg
  have ja:=hid (dh.out.G hg)
  have dI:=hid (aM.out.G hg)
  have dw:=hid (aP.out.G hg)
  clear hg aF dh aM aP
  refine q00 (l':=#[true,true,true,true,true,true,true,true,true,true,true,true,true,true,false,false,false]) (by kernel_rfl) ?_
  revert aj
  revert ah
  revert aa
  revert ai
  revert ae
  revert ag
  revert dw
  revert dI
  revert ja
  revert aR
  revert p2
  revert p1
  revert p0
  revert bR
  exact fG.out
  refine Later.mk ?_
  intro bR p0 p1 p2 aR ja dI dw ag ae ai aa ah aj
  refine q03 (i:=14) (by kernel_rfl) rfl ?_
  intro K hK
  go_simp
  have dL:Hid _:=q0Y bR p2 0 b2 0 bx 2 0 ya xb KB (by omega) lM.out kQ.out dw.out.2.1 (G.lt aR hby) (G.lt aR hbx) dw.out.2.2 (IntIs.G tq.out hby aR) (IntIs.G F5.out hbx aR)
  go_wp2_with (go_at_call 49;refine Calls.mono (P:=Tryz.prog) dL.out ?_;intro e dQ hx;obtain⟨rfl,iE,hl,-,hkp⟩:=SetTo.step aR dw.out hx)
  have gp:=hid hl
  have jb:=hid (hkp _ _ ai.out ja.out)
  have fZ:=hid (hkp _ _ aa.out dI.out)
  refine hK.out _ _ (Or.inr iE) ?_
  clear hK K hx hl hkp dL aR ja dI dw
  refine q00 (l':=#[true,true,true,true,true,true,true,true,true,true,true,true,true,true,true,false,false]) (by kernel_rfl) ?_
  revert aj
  revert ah
  revert aa
  revert ai
  revert ae
  revert ag
  revert gp
  revert fZ
  revert jb
  revert iE
  revert p2
  revert p1
  revert p0
  revert dQ
  exact fV.out
  refine Later.mk ?_
  intro dQ p0 p1 p2 iE jb fZ gp ag ae ai aa ah aj
  refine q03 (i:=15) (by kernel_rfl) rfl ?_
  intro K hK
  go_simp
  have dL:Hid _:=qbh dQ p0 0 p1 0 p2 0 0 (xa*(yb:Int)) (ya*(xb:Int)) (2*KB) (by omega) xA.out fJ.out jb.out.2.1 fZ.out.2.1 gp.out.2.1 jb.out.2.2 fZ.out.2.2 gp.out.2.2
  go_wp2_with (go_at_call 67;refine Calls.mono (P:=Tryz.prog) dL.out ?_;intro e jg hx;obtain⟨rfl,nK,hl,-,hkp⟩:=SetTo.step iE jb.out hx)
  have nL:=hid hl
  have rE:=hid (hkp _ _ ah.out fZ.out)
  have rF:=hid (hkp _ _ aj.out gp.out)
  refine hK.out _ _ (Or.inl (by decide)) ?_
  clear hK K hx hl hkp dL iE jb fZ gp
  refine q03 (i:=16) (by kernel_rfl) rfl ?_
  intro K hK
  go_simp
  refine hK.out _ _ (Or.inl (by decide)) ?_
  clear hK K
  refine q0j (by kernel_rfl) ?_ _
  revert aj
  revert ah
  revert aa
  revert ai
  revert ae
  revert ag
  revert rF
  revert rE
  revert nL
  revert nK
  revert p2
  revert p1
  revert p0
  revert jg
  exact LX.out
 ·skip
  refine Later.mk ?_
  intro jg p0 p1 p2 nK nL rE rF ag ae ai aa ah aj
  clear ah aj ag ae ai aa
  have HS:=nL.out
  have hG:=nK
  clear nL rE rF nK
  have wT:Hid (NI w jg p0 (xa*(yb:Int)-ya*(xb:Int))):=HS
  clear HS
  go_wp2_with fail
  have hn0:=NI.new hG 38
  have hal:=(G.refl jg).alloc (.cells #[.bool false,.slice none 0 0] 38)
  have hG1:=G.trans hG hal
  have hs1:=wT.out.G hal
  have hne:p0≠jg.heap.size:=by have:=wT.out.2.1;omega
  generalize jg.heap.size=pd at *
  generalize jg.alloc (.cells #[.bool false,.slice none 0 0] 38)=v1 at *
  have lq:Hid (NI w v1 pd 0):=hn0
  have sO:Hid (NI w v1 p0 (xa*(yb:Int)-ya*(xb:Int))):=hs1
  clear hn0 hal hs1 hG wT
  refine Calls.mono (P:=Tryz.prog) (q21 v1 bx xa xb iB (nJ.out.G hbx hG1)) ?_
  rintro e v2 ⟨rfl,hg2⟩
  have hG2:=G.trans hG1 hg2
  have oq:Hid (NI w v2 pd 0):=lq.out.G hg2
  have HS2:Hid (NI w v2 p0 (xa*(yb:Int)-ya*(xb:Int))):=sO.out.G hg2
  clear hG1 hg2 lq sO
  go_wp2_with fail
  refine Calls.mono (P:=Tryz.prog) (q21 v2 b2 ya yb dJ (kH.out.G hby hG2)) ?_
  rintro e v3 ⟨rfl,hg3⟩
  have hG3:=G.trans hG2 hg3
  have tX:Hid (NI w v3 pd 0):=oq.out.G hg3
  have qK:Hid (NI w v3 p0 (xa*(yb:Int)-ya*(xb:Int))):=HS2.out.G hg3
  clear hG2 hg3 oq HS2
  have HM:Hid _:=q0Y v3 pd 0 bx 2 b2 2 0 xb yb KB (by omega) kQ.out iY.out tX.out.2.1 (G.lt hG3 hbx) (G.lt hG3 hby) tX.out.2.2 (IntIs.G F5.out hbx hG3) (IntIs.G FX.out hby hG3)
  go_wp2_with fail
  refine Calls.mono (P:=Tryz.prog) HM.out ?_
  intro e v4 hs
  obtain⟨rfl,hG4,nI,-,hkp⟩:=SetTo.step hG3 tX.out hs
  have xm:Hid (NI w v4 p0 (xa*(yb:Int)-ya*(xb:Int))):=hkp p0 _ hne qK.out
  rw[show (xb:Int)*yb=((xb*yb:Nat):Int) from by push_cast;rfl] at nI
  have sM:Hid (NI w v4 pd ((xb*yb:Nat):Int)):=nI
  clear hs hkp nI HM tX qK hG3 hne
  have HF:Hid _:=q0Z v4 bz p0 0 pd 0 s1 s2 (xa*(yb:Int)-ya*(xb:Int)) (xb*yb) (2*KB+1) (by omega) Nc.out HD2.out HD0.out (G.lt hG4 hbz) xm.out.2.1 sM.out.2.1 (FY.out.G hbz hG4) xm.out.2.2 sM.out.2.2
  go_wp2_with fail
  refine Calls.mono (P:=Tryz.prog) HF.out ?_
  intro e v5 hs
  obtain⟨rfl,k1,k2⟩:=NormTo.after hG4 hs
  have ng:Hid _:=k2
  clear hs k2 HF xm sM
  go_wp2_with fail
  go_ret
  exact⟨rfl,k1,ng.out⟩
/-- den: of a new Rat it is a new 1. -/
theorem qbW (w:World) (b:Nat) (xb:Nat) (hxb:xb=1) (h:RatIs w b 0 0):
  Calls Tryz.prog 50 #[.pointer (some ⟨b,0,none⟩)] w (RetI w (xb:Int)):=by
 obtain⟨-,n,v,a,⟨c1,c2,-,-⟩,⟨l,hl,hcl,hlv⟩,h1,-⟩:=h
 have ha:=q0S h1
 obtain⟨p,c,rfl,-,-⟩:=q0o hl
 have hl0:l.length=0:=by
  have h0:val l=0:=by rw[hlv];omega
  rw[(q1e hcl).1 h0]
  rfl
 rw[hl0] at c2
 have HN:Hid _:=q2m w (xb:Int) ⟨by omega,by omega⟩
 rw[hxb] at HN ⊢
 clear hl hcl hlv h1 ha hl0
 go_enter Tryz.func50,Tryz.ntmps50
 go_wp2_with fail
 refine Calls.mono (P:=Tryz.prog) HN.out ?_
 rintro e w2 ⟨p,rfl,k1,k2,k3,k4⟩
 have HK:Hid _:=k4
 clear k4 HN
 go_wp2_with fail
 go_ret
 exact⟨p,rfl,k1,k2,k3,HK.out⟩
/-- A Rat, laid or new (then it is 0). -/
def RatV (w:World) (b:Nat) (xa:Int) (xb:Nat):Prop:=RatIs w b xa (xb:Int)∨(xa=0∧xb=1∧RatIs w b 0 0)
theorem RatV.G {w w':World} {b:Nat} {xa:Int} {xb:Nat} (h:RatV w b xa xb) (hb:b<w.heap.size) (g:G w w'):RatV w' b xa xb:=by
 rcases h with h|⟨h1,h2,h⟩
 ·exact Or.inl (RatIs.G h hb g)
 ·exact Or.inr ⟨h1,h2,RatIs.G h hb g⟩
theorem RatV.num {w:World} {b:Nat} {xa:Int} {xb:Nat} (h:RatV w b xa xb):IntIs w b 0 xa:=by
 rcases h with h|⟨h1,-,h⟩
 ·exact h.1
 ·rw[h1];exact h.1
/-- A lower part: in the Rat itself, or new. -/
def DI (w0 w:World) (p o:Nat) (s:Int):Prop:=(p<w0.heap.size∧IntIs w0 p o s)∨(o=0∧NI w0 w p s)
theorem DI.G {w0 w w':World} {p o:Nat} {s:Int} (h:DI w0 w p o s) (g:Go.Proofs.YtljkfjjchkehaaaGreatDoor.G w w'):DI w0 w' p o s:=by
 rcases h with h|⟨h1,h2⟩
 ·exact Or.inl h
 ·exact Or.inr ⟨h1,h2.G g⟩
theorem DI.is {w0 w:World} {p o:Nat} {s:Int} (h:DI w0 w p o s) (g:Go.Proofs.YtljkfjjchkehaaaGreatDoor.G w0 w):p<w.heap.size∧IntIs w p o s:=by
 rcases h with ⟨h1,h2⟩|⟨rfl,h2⟩
 ·exact⟨G.lt g h1,IntIs.G h2 h1 g⟩
 ·exact h2.2
theorem DI.keep {w0 w w':World} {p o:Nat} {s:Int} (h:DI w0 w p o s) (k:NI w0 w p s→NI w0 w' p s):DI w0 w' p o s:=by
 rcases h with h|⟨h1,h2⟩
 ·exact Or.inl h
 ·exact Or.inr ⟨h1,k h2⟩
theorem q0H (w0 w:World) (g:G w0 w) (b:Nat) (xa:Int) (xb:Nat) (hxb:0<xb) (hb:b<w0.heap.size) (h:RatV w0 b xa xb):
  Calls Tryz.prog 50 #[.pointer (some ⟨b,0,none⟩)] w fun e w'=>∃ p o,e= .returned (.pointer (some ⟨p,o,none⟩))∧G w w'∧DI w0 w' p o (xb:Int)∧(p<w0.heap.size∨w.heap.size≤p):=by
 rcases h with h|⟨-,h2,h⟩
 ·refine Calls.mono (P:=Tryz.prog) (q21 w b xa xb (by omega) (h.G hb g)) ?_
  rintro e w' ⟨rfl,g'⟩
  exact⟨b,2,rfl,g',Or.inl ⟨hb,h.2⟩,Or.inl hb⟩
 ·refine Calls.mono (P:=Tryz.prog) (qbW w b xb h2 (h.G hb g)) ?_
  rintro e w' ⟨p,rfl,g',k1,k2,k3⟩
  exact⟨p,0,rfl,g',Or.inr ⟨rfl,Nat.le_trans g.size k1,k2,k3⟩,Or.inr k1⟩
set_option maxRecDepth 10000 in
set_option maxHeartbeats 8000000 in
theorem qc7 (w:World) (bz bx b2:Nat) (s1 s2 xa ya:Int) (xb yb:Nat) (KB:Nat) (hK:KB≤100000) (hx2:xa.natAbs<2^(32*KB)) (hy2:ya.natAbs<2^(32*KB)) (gy:xb<2^(32*KB)) (iH:yb<2^(32*KB)) (hxb:0<xb) (hyb:0<yb)
  (hbz:bz<w.heap.size) (hbx:bx<w.heap.size) (hby:b2<w.heap.size) (hz:RatIs w bz s1 s2) (hx:RatV w bx xa xb) (hy:RatV w b2 ya yb):
  Calls Tryz.prog 29 #[.pointer (some ⟨bz,0,none⟩),.pointer (some ⟨bx,0,none⟩),.pointer (some ⟨b2,0,none⟩)] w (NormTo w bz (Int.tdiv (xa*(yb:Int)+ya*(xb:Int)) (Nat.gcd (xa*(yb:Int)+ya*(xb:Int)).natAbs (xb*yb):Nat)) (xb*yb/Nat.gcd (xa*(yb:Int)+ya*(xb:Int)).natAbs (xb*yb))):=by
 have jh:Hid (xa.natAbs<2^(32*KB)):=hx2
 have lM:Hid (ya.natAbs<2^(32*KB)):=hy2
 have kQ:Hid ((xb:Int).natAbs<2^(32*KB)):=by show (xb:Int).natAbs<2^(32*KB);rw[Int.natAbs_natCast];exact gy
 have iY:Hid ((yb:Int).natAbs<2^(32*KB)):=by show (yb:Int).natAbs<2^(32*KB);rw[Int.natAbs_natCast];exact iH
 have HX0:Hid (IntIs w bx 0 xa):=hx.num
 have tq:Hid (IntIs w b2 0 ya):=hy.num
 have nJ:Hid (RatV w bx xa xb):=hx
 have kH:Hid (RatV w b2 ya yb):=hy
 have FY:Hid (RatIs w bz s1 s2):=hz
 have iB:0<xb:=hxb
 have dJ:0<yb:=hyb
 have sI:32*(2*KB)=32*KB+32*KB:=by omega
 have hn1:(xa*(yb:Int)).natAbs<2^(32*(2*KB)):=by
  rw[Int.natAbs_mul,Int.natAbs_natCast,sI,Nat.pow_add]
  exact Nat.mul_lt_mul'' hx2 iH
 have hn2:(ya*(xb:Int)).natAbs<2^(32*(2*KB)):=by
  rw[Int.natAbs_mul,Int.natAbs_natCast,sI,Nat.pow_add]
  exact Nat.mul_lt_mul'' hy2 gy
 have hd2:xb*yb<2^(32*(2*KB)):=by
  rw[sI,Nat.pow_add]
  exact Nat.mul_lt_mul'' gy iH
 have hup:2^(32*(2*KB))*2≤2^(32*(2*KB+1)):=by rw[← Nat.pow_succ];exact Nat.pow_le_pow_right (by omega) (by omega)
 have xA:Hid ((xa*(yb:Int)).natAbs<2^(32*(2*KB))):=hn1
 have fJ:Hid ((ya*(xb:Int)).natAbs<2^(32*(2*KB))):=hn2
 have Nc:Hid ((xa*(yb:Int)+ya*(xb:Int)).natAbs<2^(32*(2*KB+1))):=by
  show (xa*(yb:Int)+ya*(xb:Int)).natAbs<2^(32*(2*KB+1))
  have:=Int.natAbs_add_le (xa*(yb:Int)) (ya*(xb:Int))
  omega
 have HD2:Hid (xb*yb<2^(32*(2*KB+1))):=by show xb*yb<2^(32*(2*KB+1));omega
 have HD0:Hid (0<xb*yb):=Nat.mul_pos hxb hyb
 clear hx hy hz hx2 hy2 gy iH hxb hyb sI hn1 hn2 hd2 hup
 go_enter Tryz.func29,Tryz.ntmps29
 go_wp2_with fail
 apply share
 ·intro LX
  refine q0J 15 (G w) (by kernel_rfl) (by first|exact(G.refl _).drew|exact G.drew (by assumption)) ?_
  intro bS
  refine q02 2 (v:= ?_) rfl (by kernel_rfl) (fun _ _ _ h=>h) rfl ?_ ‹_› ?_
  rotate_left
  ·intro wq hwq
   first|(go_simp;done)|(go_simp;with_reducible rfl)
  try simp only[aput,List.set]
  refine q02 3 (v:= ?_) rfl (by kernel_rfl) (fun _ _ _ h=>h) rfl ?_ ‹_› ?_
  rotate_left
  ·intro wq hwq
   first|(go_simp;done)|(go_simp;with_reducible rfl)
  try simp only[aput,List.set]
  refine q02 4 (v:= ?_) rfl (by kernel_rfl) (fun _ _ _ h=>h) rfl ?_ ‹_› ?_
  rotate_left
  ·intro wq hwq
   first|(go_simp;done)|(go_simp;with_reducible rfl)
  try simp only[aput,List.set]
  refine q02 5 (v:= ?_) rfl (by kernel_rfl) (fun _ _ _ h=>h) rfl ?_ ‹_› ?_
  rotate_left
  ·intro wq hwq
   first|(go_simp;done)|(go_simp;with_reducible rfl)
  try simp only[aput,List.set]
  refine q02 9 (v:= ?_) rfl (by kernel_rfl) (fun _ _ _ h=>h) rfl ?_ ‹_› ?_
  rotate_left
  ·intro wq hwq
   first|(go_simp;done)|(go_simp;with_reducible rfl)
  try simp only[aput,List.set]
  refine q02 10 (v:= ?_) rfl (by kernel_rfl) (fun _ _ _ h=>h) rfl ?_ ‹_› ?_
  rotate_left
  ·intro wq hwq
   first|(go_simp;done)|(go_simp;with_reducible rfl)
  try simp only[aput,List.set]
  refine q02 11 (v:= ?_) rfl (by kernel_rfl) (fun _ _ _ h=>h) rfl ?_ ‹_› ?_
  rotate_left
  ·intro wq hwq
   first|(go_simp;done)|(go_simp;with_reducible rfl)
  try simp only[aput,List.set]
  refine q02 12 (v:= ?_) rfl (by kernel_rfl) (fun _ _ _ h=>h) rfl ?_ ‹_› ?_
  rotate_left
  ·intro wq hwq
   first|(go_simp;done)|(go_simp;with_reducible rfl)
  try simp only[aput,List.set]
  show q0C _ _ _ _ _ _ _ _ _ w.drew
  have hS5:=bS
  generalize w.drew=w5 at *
  clear bS
  apply share
  intro fV
  apply share
  intro fG
  apply share
  intro iC
  apply share
  intro ku
  apply share
  intro dK
  apply share
  intro iD
  apply share
  intro lN
  apply share
  intro fH
  apply share
  intro lQ
  apply share
  intro lS
  apply share
  intro lT
  apply share
  intro iZ
  apply share
  intro vT
  apply share
  intro vU
  apply share
  intro vV
  apply share
  intro lU
  apply share
  intro oZ
  apply share
  intro p8
  refine q3f (i:=0) (j:=1) (l:=6) (m:=8) (by kernel_rfl) rfl rfl rfl rfl ?_ ?_ ?_ ?_
  ·skip
   intro K hK
   go_simp
   refine hK.out _ _ (Or.inr (hS5.alloc _)) ?_
   clear hK K
   have hn:=NI.new hS5 38
   have hal:=(G.refl w5).alloc (.cells #[.bool false,.slice none 0 0] 38)
   have aI:=G.trans hS5 hal
   generalize w5.heap.size=p0 at *
   generalize w5.alloc (.cells #[.bool false,.slice none 0 0] 38)=w6 at *
   have kV:=hid hn
   clear hn hal
   refine q0l (i:=1) (j:=6) (l:=8) (by kernel_rfl) rfl rfl rfl ?_ ?_ ?_
   ·skip
    intro K hK
    go_simp
    refine hK.out _ _ (Or.inr (aI.alloc _)) ?_
    clear hK K
    have hn:=NI.new aI 38
    have hal:=(G.refl w6).alloc (.cells #[.bool false,.slice none 0 0] 38)
    have aA:=G.trans aI hal
    have dz:=hid (kV.out.G hal)
    have ax:w6.heap.size≠p0:=by have:=kV.out.2.1;omega
    generalize w6.heap.size=p1 at *
    generalize w6.alloc (.cells #[.bool false,.slice none 0 0] 38)=w7 at *
    have aY:=hid hn
    have ag:Hid (p0≠p1):=ax.symm
    have ah:Hid (p1≠p0):=ax
    clear hn hal aI kV ax
    refine q00 (l':=#[true,true,true,true,true,true,false,false,false,true,true,true,true,false,false,false,false]) (by kernel_rfl) ?_
    revert ah
    revert ag
    revert aY
    revert dz
    revert aA
    revert p1
    revert p0
    revert w7
    exact vT.out
   ·skip
    intro K hK
    go_simp
    go_wp2_with (go_at_call 50;refine Calls.mono (P:=Tryz.prog) (q0H w w6 aI b2 ya yb dJ hby kH.out) ?_;intro e w7 hx;obtain⟨p4,o4,rfl,hg,h72,fP⟩:=hx)
    refine hK.out _ _ (Or.inr (G.trans aI hg)) ?_
    clear hK K
    have aA:=G.trans aI hg
    have HD7:=hid h72
    have ax:p4≠p0:=by have h1:=kV.out.1;have h2:=kV.out.2.1;omega
    have dz:=hid (kV.out.G hg)
    have az:Hid (p4≠p0):=ax
    clear hg h72 fP aI kV ax
    refine q00 (l':=#[true,false,true,true,true,true,true,false,false,true,true,true,true,false,false,false,false]) (by kernel_rfl) ?_
    revert az
    revert HD7
    revert dz
    revert aA
    revert o4
    revert p4
    revert p0
    revert w7
    exact vV.out
   ·skip
    intro K hK
    go_simp
    refine hK.out _ _ (Or.inr (aI.alloc _)) ?_
    clear hK K
    have hn:=NI.new aI 38
    have hal:=(G.refl w6).alloc (.cells #[.bool false,.slice none 0 0] 38)
    have aA:=G.trans aI hal
    have dz:=hid (kV.out.G hal)
    have ax:w6.heap.size≠p0:=by have:=kV.out.2.1;omega
    generalize w6.heap.size=p2 at *
    generalize w6.alloc (.cells #[.bool false,.slice none 0 0] 38)=w7 at *
    have bM:=hid hn
    have ai:Hid (p0≠p2):=ax.symm
    have aj:Hid (p2≠p0):=ax
    clear hn hal aI kV ax
    refine q00 (l':=#[true,false,true,true,true,true,false,false,true,true,true,true,true,false,false,false,false]) (by kernel_rfl) ?_
    revert aj
    revert ai
    revert bM
    revert dz
    revert aA
    revert p2
    revert p0
    revert w7
    exact vU.out
  ·skip
   intro K hK
   go_simp
   refine hK.out _ _ (Or.inr (hS5.alloc _)) ?_
   clear hK K
   have hn:=NI.new hS5 38
   have hal:=(G.refl w5).alloc (.cells #[.bool false,.slice none 0 0] 38)
   have aI:=G.trans hS5 hal
   generalize w5.heap.size=p1 at *
   generalize w5.alloc (.cells #[.bool false,.slice none 0 0] 38)=w6 at *
   have jM:=hid hn
   clear hn hal
   refine q0l (i:=0) (j:=6) (l:=8) (by kernel_rfl) rfl rfl rfl ?_ ?_ ?_
   ·skip
    intro K hK
    go_simp
    refine hK.out _ _ (Or.inr (aI.alloc _)) ?_
    clear hK K
    have hn:=NI.new aI 38
    have hal:=(G.refl w6).alloc (.cells #[.bool false,.slice none 0 0] 38)
    have aA:=G.trans aI hal
    have aY:=hid (jM.out.G hal)
    have af:w6.heap.size≠p1:=by have:=jM.out.2.1;omega
    generalize w6.heap.size=p0 at *
    generalize w6.alloc (.cells #[.bool false,.slice none 0 0] 38)=w7 at *
    have dz:=hid hn
    have ah:Hid (p1≠p0):=af.symm
    have ag:Hid (p0≠p1):=af
    clear hn hal aI jM af
    refine q00 (l':=#[true,true,true,true,true,true,false,false,false,true,true,true,true,false,false,false,false]) (by kernel_rfl) ?_
    revert ah
    revert ag
    revert aY
    revert dz
    revert aA
    revert p1
    revert p0
    revert w7
    exact vT.out
   ·skip
    intro K hK
    go_simp
    go_wp2_with (go_at_call 50;refine Calls.mono (P:=Tryz.prog) (q0H w w6 aI b2 ya yb dJ hby kH.out) ?_;intro e w7 hx;obtain⟨p4,o4,rfl,hg,h72,fP⟩:=hx)
    refine hK.out _ _ (Or.inr (G.trans aI hg)) ?_
    clear hK K
    have aA:=G.trans aI hg
    have HD7:=hid h72
    have af:p4≠p1:=by have h1:=jM.out.1;have h2:=jM.out.2.1;omega
    have aY:=hid (jM.out.G hg)
    have ak:Hid (p4≠p1):=af
    clear hg h72 fP aI jM af
    refine q00 (l':=#[false,true,true,true,true,true,true,false,false,true,true,true,true,false,false,false,false]) (by kernel_rfl) ?_
    revert ak
    revert HD7
    revert aY
    revert aA
    revert o4
    revert p4
    revert p1
    revert w7
    exact oZ.out
   ·skip
    intro K hK
    go_simp
    refine hK.out _ _ (Or.inr (aI.alloc _)) ?_
    clear hK K
    have hn:=NI.new aI 38
    have hal:=(G.refl w6).alloc (.cells #[.bool false,.slice none 0 0] 38)
    have aA:=G.trans aI hal
    have aY:=hid (jM.out.G hal)
    have af:w6.heap.size≠p1:=by have:=jM.out.2.1;omega
    generalize w6.heap.size=p2 at *
    generalize w6.alloc (.cells #[.bool false,.slice none 0 0] 38)=w7 at *
    have bM:=hid hn
    have aa:Hid (p1≠p2):=af.symm
    have ae:Hid (p2≠p1):=af
    clear hn hal aI jM af
    refine q00 (l':=#[false,true,true,true,true,true,false,false,true,true,true,true,true,false,false,false,false]) (by kernel_rfl) ?_
    revert aa
    revert ae
    revert bM
    revert aY
    revert aA
    revert p2
    revert p1
    revert w7
    exact lU.out
  ·skip
   intro K hK
   go_simp
   go_wp2_with (go_at_call 50;refine Calls.mono (P:=Tryz.prog) (q0H w w5 hS5 b2 ya yb dJ hby kH.out) ?_;intro e w6 hx;obtain⟨p4,o4,rfl,hg,h72,fP⟩:=hx)
   refine hK.out _ _ (Or.inr (G.trans hS5 hg)) ?_
   clear hK K
   have aI:=G.trans hS5 hg
   have HD6:=hid h72
   clear hg h72 fP
   refine q0l (i:=0) (j:=1) (l:=8) (by kernel_rfl) rfl rfl rfl ?_ ?_ ?_
   ·skip
    intro K hK
    go_simp
    refine hK.out _ _ (Or.inr (aI.alloc _)) ?_
    clear hK K
    have hn:=NI.new aI 38
    have hal:=(G.refl w6).alloc (.cells #[.bool false,.slice none 0 0] 38)
    have aA:=G.trans aI hal
    have HD7:=hid (HD6.out.G hal)
    have ay:w6.heap.size≠p4:=by have:=(HD6.out.is aI).1;omega
    generalize w6.heap.size=p0 at *
    generalize w6.alloc (.cells #[.bool false,.slice none 0 0] 38)=w7 at *
    have dz:=hid hn
    have az:Hid (p4≠p0):=ay.symm
    clear hn hal aI HD6 ay
    refine q00 (l':=#[true,false,true,true,true,true,true,false,false,true,true,true,true,false,false,false,false]) (by kernel_rfl) ?_
    revert az
    revert HD7
    revert dz
    revert aA
    revert o4
    revert p4
    revert p0
    revert w7
    exact vV.out
   ·skip
    intro K hK
    go_simp
    refine hK.out _ _ (Or.inr (aI.alloc _)) ?_
    clear hK K
    have hn:=NI.new aI 38
    have hal:=(G.refl w6).alloc (.cells #[.bool false,.slice none 0 0] 38)
    have aA:=G.trans aI hal
    have HD7:=hid (HD6.out.G hal)
    have ay:w6.heap.size≠p4:=by have:=(HD6.out.is aI).1;omega
    generalize w6.heap.size=p1 at *
    generalize w6.alloc (.cells #[.bool false,.slice none 0 0] 38)=w7 at *
    have aY:=hid hn
    have ak:Hid (p4≠p1):=ay.symm
    clear hn hal aI HD6 ay
    refine q00 (l':=#[false,true,true,true,true,true,true,false,false,true,true,true,true,false,false,false,false]) (by kernel_rfl) ?_
    revert ak
    revert HD7
    revert aY
    revert aA
    revert o4
    revert p4
    revert p1
    revert w7
    exact oZ.out
   ·skip
    intro K hK
    go_simp
    refine hK.out _ _ (Or.inr (aI.alloc _)) ?_
    clear hK K
    have hn:=NI.new aI 38
    have hal:=(G.refl w6).alloc (.cells #[.bool false,.slice none 0 0] 38)
    have aA:=G.trans aI hal
    have HD7:=hid (HD6.out.G hal)
    have ay:w6.heap.size≠p4:=by have:=(HD6.out.is aI).1;omega
    generalize w6.heap.size=p2 at *
    generalize w6.alloc (.cells #[.bool false,.slice none 0 0] 38)=w7 at *
    have bM:=hid hn
    have av:Hid (p4≠p2):=ay.symm
    clear hn hal aI HD6 ay
    refine q00 (l':=#[false,false,true,true,true,true,true,false,true,true,true,true,true,false,false,false,false]) (by kernel_rfl) ?_
    revert av
    revert bM
    revert HD7
    revert aA
    revert p2
    revert o4
    revert p4
    revert w7
    exact p8.out
  ·skip
   intro K hK
   go_simp
   refine hK.out _ _ (Or.inr (hS5.alloc _)) ?_
   clear hK K
   have hn:=NI.new hS5 38
   have hal:=(G.refl w5).alloc (.cells #[.bool false,.slice none 0 0] 38)
   have aI:=G.trans hS5 hal
   generalize w5.heap.size=p2 at *
   generalize w5.alloc (.cells #[.bool false,.slice none 0 0] 38)=w6 at *
   have kI:=hid hn
   clear hn hal
   refine q0l (i:=0) (j:=1) (l:=6) (by kernel_rfl) rfl rfl rfl ?_ ?_ ?_
   ·skip
    intro K hK
    go_simp
    refine hK.out _ _ (Or.inr (aI.alloc _)) ?_
    clear hK K
    have hn:=NI.new aI 38
    have hal:=(G.refl w6).alloc (.cells #[.bool false,.slice none 0 0] 38)
    have aA:=G.trans aI hal
    have bM:=hid (kI.out.G hal)
    have au:w6.heap.size≠p2:=by have:=kI.out.2.1;omega
    generalize w6.heap.size=p0 at *
    generalize w6.alloc (.cells #[.bool false,.slice none 0 0] 38)=w7 at *
    have dz:=hid hn
    have aj:Hid (p2≠p0):=au.symm
    have ai:Hid (p0≠p2):=au
    clear hn hal aI kI au
    refine q00 (l':=#[true,false,true,true,true,true,false,false,true,true,true,true,true,false,false,false,false]) (by kernel_rfl) ?_
    revert aj
    revert ai
    revert bM
    revert dz
    revert aA
    revert p2
    revert p0
    revert w7
    exact vU.out
   ·skip
    intro K hK
    go_simp
    refine hK.out _ _ (Or.inr (aI.alloc _)) ?_
    clear hK K
    have hn:=NI.new aI 38
    have hal:=(G.refl w6).alloc (.cells #[.bool false,.slice none 0 0] 38)
    have aA:=G.trans aI hal
    have bM:=hid (kI.out.G hal)
    have au:w6.heap.size≠p2:=by have:=kI.out.2.1;omega
    generalize w6.heap.size=p1 at *
    generalize w6.alloc (.cells #[.bool false,.slice none 0 0] 38)=w7 at *
    have aY:=hid hn
    have ae:Hid (p2≠p1):=au.symm
    have aa:Hid (p1≠p2):=au
    clear hn hal aI kI au
    refine q00 (l':=#[false,true,true,true,true,true,false,false,true,true,true,true,true,false,false,false,false]) (by kernel_rfl) ?_
    revert aa
    revert ae
    revert bM
    revert aY
    revert aA
    revert p2
    revert p1
    revert w7
    exact lU.out
   ·skip
    intro K hK
    go_simp
    go_wp2_with (go_at_call 50;refine Calls.mono (P:=Tryz.prog) (q0H w w6 aI b2 ya yb dJ hby kH.out) ?_;intro e w7 hx;obtain⟨p4,o4,rfl,hg,h72,fP⟩:=hx)
    refine hK.out _ _ (Or.inr (G.trans aI hg)) ?_
    clear hK K
    have aA:=G.trans aI hg
    have HD7:=hid h72
    have au:p4≠p2:=by have h1:=kI.out.1;have h2:=kI.out.2.1;omega
    have bM:=hid (kI.out.G hg)
    have av:Hid (p4≠p2):=au
    clear hg h72 fP aI kI au
    refine q00 (l':=#[false,false,true,true,true,true,true,false,true,true,true,true,true,false,false,false,false]) (by kernel_rfl) ?_
    revert av
    revert bM
    revert HD7
    revert aA
    revert p2
    revert o4
    revert p4
    revert w7
    exact p8.out
  refine Later.mk ?_
  intro w7 p4 o4 p2 aA HD7 bM av
  refine q07 (i:=0) (j:=1) (by kernel_rfl) rfl rfl ?_ ?_
  ·skip
   intro K hK
   go_simp
   refine hK.out _ _ (Or.inr (aA.alloc _)) ?_
   clear hK K
   have hn:=NI.new aA 38
   have hal:=(G.refl w7).alloc (.cells #[.bool false,.slice none 0 0] 38)
   have aG:=G.trans aA hal
   have bV:=hid (HD7.out.G hal)
   have bY:=hid (bM.out.G hal)
   have ay:w7.heap.size≠p4:=by have:=(HD7.out.is aA).1;omega
   have au:w7.heap.size≠p2:=by have:=bM.out.2.1;omega
   generalize w7.heap.size=p0 at *
   generalize w7.alloc (.cells #[.bool false,.slice none 0 0] 38)=w8 at *
   have dB:=hid hn
   have az:Hid (p4≠p0):=ay.symm
   have aj:Hid (p2≠p0):=au.symm
   have ai:Hid (p0≠p2):=au
   clear hn hal aA HD7 bM ay au
   refine q00 (l':=#[true,false,true,true,true,true,true,false,true,true,true,true,true,false,false,false,false]) (by kernel_rfl) ?_
   revert aj
   revert az
   revert av
   revert ai
   revert bY
   revert bV
   revert dB
   revert aG
   revert p2
   revert o4
   revert p4
   revert p0
   revert w8
   exact lT.out
  ·skip
   intro K hK
   go_simp
   refine hK.out _ _ (Or.inr (aA.alloc _)) ?_
   clear hK K
   have hn:=NI.new aA 38
   have hal:=(G.refl w7).alloc (.cells #[.bool false,.slice none 0 0] 38)
   have aG:=G.trans aA hal
   have bV:=hid (HD7.out.G hal)
   have bY:=hid (bM.out.G hal)
   have ay:w7.heap.size≠p4:=by have:=(HD7.out.is aA).1;omega
   have au:w7.heap.size≠p2:=by have:=bM.out.2.1;omega
   generalize w7.heap.size=p1 at *
   generalize w7.alloc (.cells #[.bool false,.slice none 0 0] 38)=w8 at *
   have aO:=hid hn
   have ak:Hid (p4≠p1):=ay.symm
   have ae:Hid (p2≠p1):=au.symm
   have aa:Hid (p1≠p2):=au
   clear hn hal aA HD7 bM ay au
   refine q00 (l':=#[false,true,true,true,true,true,true,false,true,true,true,true,true,false,false,false,false]) (by kernel_rfl) ?_
   revert av
   revert aa
   revert ae
   revert ak
   revert bY
   revert bV
   revert aO
   revert aG
   revert p2
   revert o4
   revert p4
   revert p1
   revert w8
   exact iZ.out
  refine Later.mk ?_
  intro w7 p1 p4 o4 aA aY HD7 ak
  refine q0l (i:=0) (j:=7) (l:=8) (by kernel_rfl) rfl rfl rfl ?_ ?_ ?_
  ·skip
   intro K hK
   go_simp
   refine hK.out _ _ (Or.inr (aA.alloc _)) ?_
   clear hK K
   have hn:=NI.new aA 38
   have hal:=(G.refl w7).alloc (.cells #[.bool false,.slice none 0 0] 38)
   have aG:=G.trans aA hal
   have aO:=hid (aY.out.G hal)
   have bV:=hid (HD7.out.G hal)
   have af:w7.heap.size≠p1:=by have:=aY.out.2.1;omega
   have ay:w7.heap.size≠p4:=by have:=(HD7.out.is aA).1;omega
   generalize w7.heap.size=p0 at *
   generalize w7.alloc (.cells #[.bool false,.slice none 0 0] 38)=w8 at *
   have dB:=hid hn
   have ah:Hid (p1≠p0):=af.symm
   have ag:Hid (p0≠p1):=af
   have az:Hid (p4≠p0):=ay.symm
   clear hn hal aA aY HD7 af ay
   refine q00 (l':=#[true,true,true,true,true,true,true,false,false,true,true,true,true,false,false,false,false]) (by kernel_rfl) ?_
   revert az
   revert ah
   revert ak
   revert ag
   revert bV
   revert aO
   revert dB
   revert aG
   revert o4
   revert p4
   revert p1
   revert p0
   revert w8
   exact lS.out
  ·skip
   intro K hK
   go_simp
   have dL:Hid _:=q0Y w7 p1 0 bx 0 p4 o4 0 xa yb KB (by omega) jh.out iY.out aY.out.2.1 (G.lt aA hbx) (HD7.out.is aA).1 aY.out.2.2 (IntIs.G HX0.out hbx aA) (HD7.out.is aA).2
   go_wp2_with (go_at_call 49;refine Calls.mono (P:=Tryz.prog) dL.out ?_;intro e w8 hx;obtain⟨rfl,aG,hl,-,hkp⟩:=SetTo.step aA aY.out hx)
   have aO:=hid hl
   have bV:=hid (DI.keep HD7.out (hkp _ _ ak.out))
   refine hK.out _ _ (Or.inr aG) ?_
   clear hK K hx hl hkp dL aA aY HD7
   refine q0l (i:=0) (j:=8) (l:=13) (by kernel_rfl) rfl rfl rfl ?_ ?_ ?_
   ·skip
    intro K hK
    go_simp
    refine hK.out _ _ (Or.inr (aG.alloc _)) ?_
    clear hK K
    have hn:=NI.new aG 38
    have hal:=(G.refl w8).alloc (.cells #[.bool false,.slice none 0 0] 38)
    have aJ:=G.trans aG hal
    have aT:=hid (aO.out.G hal)
    have dx:=hid (bV.out.G hal)
    have af:w8.heap.size≠p1:=by have:=aO.out.2.1;omega
    have ay:w8.heap.size≠p4:=by have:=(bV.out.is aG).1;omega
    generalize w8.heap.size=p0 at *
    generalize w8.alloc (.cells #[.bool false,.slice none 0 0] 38)=w9 at *
    have fO:=hid hn
    have ah:Hid (p1≠p0):=af.symm
    have ag:Hid (p0≠p1):=af
    have az:Hid (p4≠p0):=ay.symm
    clear hn hal aG aO bV af ay
    refine q00 (l':=#[true,true,true,true,true,true,true,true,false,true,true,true,true,false,false,false,false]) (by kernel_rfl) ?_
    revert az
    revert ah
    revert ak
    revert ag
    revert dx
    revert aT
    revert fO
    revert aJ
    revert o4
    revert p4
    revert p1
    revert p0
    revert w9
    exact lN.out
   ·skip
    intro K hK
    go_simp
    refine hK.out _ _ (Or.inr (aG.alloc _)) ?_
    clear hK K
    have hn:=NI.new aG 38
    have hal:=(G.refl w8).alloc (.cells #[.bool false,.slice none 0 0] 38)
    have aJ:=G.trans aG hal
    have aT:=hid (aO.out.G hal)
    have dx:=hid (bV.out.G hal)
    have af:w8.heap.size≠p1:=by have:=aO.out.2.1;omega
    have ay:w8.heap.size≠p4:=by have:=(bV.out.is aG).1;omega
    generalize w8.heap.size=p2 at *
    generalize w8.alloc (.cells #[.bool false,.slice none 0 0] 38)=w9 at *
    have dR:=hid hn
    have aa:Hid (p1≠p2):=af.symm
    have ae:Hid (p2≠p1):=af
    have av:Hid (p4≠p2):=ay.symm
    clear hn hal aG aO bV af ay
    refine q00 (l':=#[false,true,true,true,true,true,true,true,true,true,true,true,true,false,false,false,false]) (by kernel_rfl) ?_
    revert av
    revert aa
    revert ae
    revert ak
    revert dR
    revert dx
    revert aT
    revert aJ
    revert p2
    revert o4
    revert p4
    revert p1
    revert w9
    exact fH.out
   ·skip
    intro K hK
    go_simp
    go_wp2_with (go_at_call 50;refine Calls.mono (P:=Tryz.prog) (q0H w w8 aG bx xa xb iB hbx nJ.out) ?_;intro e w9 hx;obtain⟨p3,o3,rfl,hg,h72,fP⟩:=hx)
    refine hK.out _ _ (Or.inr (G.trans aG hg)) ?_
    clear hK K
    have aJ:=G.trans aG hg
    have sJ:=hid h72
    have af:p3≠p1:=by have h1:=aO.out.1;have h2:=aO.out.2.1;omega
    have aT:=hid (aO.out.G hg)
    have dx:=hid (bV.out.G hg)
    have aK:Hid (p3≠p1):=af
    clear hg h72 fP aG aO bV af
    refine q07 (i:=0) (j:=8) (by kernel_rfl) rfl rfl ?_ ?_
    ·skip
     intro K hK
     go_simp
     refine hK.out _ _ (Or.inr (aJ.alloc _)) ?_
     clear hK K
     have hn:=NI.new aJ 38
     have hal:=(G.refl w9).alloc (.cells #[.bool false,.slice none 0 0] 38)
     have aF:=G.trans aJ hal
     have aM:=hid (aT.out.G hal)
     have bK:=hid (dx.out.G hal)
     have bX:=hid (sJ.out.G hal)
     have af:w9.heap.size≠p1:=by have:=aT.out.2.1;omega
     have ay:w9.heap.size≠p4:=by have:=(dx.out.is aJ).1;omega
     have dD:w9.heap.size≠p3:=by have:=(sJ.out.is aJ).1;omega
     generalize w9.heap.size=p0 at *
     generalize w9.alloc (.cells #[.bool false,.slice none 0 0] 38)=aS at *
     have dh:=hid hn
     have ah:Hid (p1≠p0):=af.symm
     have ag:Hid (p0≠p1):=af
     have az:Hid (p4≠p0):=ay.symm
     have aZ:Hid (p3≠p0):=dD.symm
     clear hn hal aJ aT dx sJ af ay dD
     refine q00 (l':=#[true,true,true,true,true,true,true,true,false,true,true,true,true,true,false,false,false]) (by kernel_rfl) ?_
     revert aZ
     revert az
     revert ah
     revert aK
     revert ak
     revert ag
     revert bX
     revert bK
     revert aM
     revert dh
     revert aF
     revert o3
     revert p3
     revert o4
     revert p4
     revert p1
     revert p0
     revert aS
     exact ku.out
    ·skip
     intro K hK
     go_simp
     refine hK.out _ _ (Or.inr (aJ.alloc _)) ?_
     clear hK K
     have hn:=NI.new aJ 38
     have hal:=(G.refl w9).alloc (.cells #[.bool false,.slice none 0 0] 38)
     have aF:=G.trans aJ hal
     have aM:=hid (aT.out.G hal)
     have bK:=hid (dx.out.G hal)
     have bX:=hid (sJ.out.G hal)
     have af:w9.heap.size≠p1:=by have:=aT.out.2.1;omega
     have ay:w9.heap.size≠p4:=by have:=(dx.out.is aJ).1;omega
     have dD:w9.heap.size≠p3:=by have:=(sJ.out.is aJ).1;omega
     generalize w9.heap.size=p2 at *
     generalize w9.alloc (.cells #[.bool false,.slice none 0 0] 38)=aS at *
     have aP:=hid hn
     have aa:Hid (p1≠p2):=af.symm
     have ae:Hid (p2≠p1):=af
     have av:Hid (p4≠p2):=ay.symm
     have aL:Hid (p3≠p2):=dD.symm
     clear hn hal aJ aT dx sJ af ay dD
     refine q00 (l':=#[false,true,true,true,true,true,true,true,true,true,true,true,true,true,false,false,false]) (by kernel_rfl) ?_
     revert aL
     revert av
     revert aa
     revert aK
     revert ae
     revert ak
     revert bX
     revert aP
     revert bK
     revert aM
     revert aF
     revert o3
     revert p3
     revert p2
     revert o4
     revert p4
     revert p1
     revert aS
     exact dK.out
  ·skip
   intro K hK
   go_simp
   refine hK.out _ _ (Or.inr (aA.alloc _)) ?_
   clear hK K
   have hn:=NI.new aA 38
   have hal:=(G.refl w7).alloc (.cells #[.bool false,.slice none 0 0] 38)
   have aG:=G.trans aA hal
   have aO:=hid (aY.out.G hal)
   have bV:=hid (HD7.out.G hal)
   have af:w7.heap.size≠p1:=by have:=aY.out.2.1;omega
   have ay:w7.heap.size≠p4:=by have:=(HD7.out.is aA).1;omega
   generalize w7.heap.size=p2 at *
   generalize w7.alloc (.cells #[.bool false,.slice none 0 0] 38)=w8 at *
   have bY:=hid hn
   have aa:Hid (p1≠p2):=af.symm
   have ae:Hid (p2≠p1):=af
   have av:Hid (p4≠p2):=ay.symm
   clear hn hal aA aY HD7 af ay
   refine q00 (l':=#[false,true,true,true,true,true,true,false,true,true,true,true,true,false,false,false,false]) (by kernel_rfl) ?_
   revert av
   revert aa
   revert ae
   revert ak
   revert bY
   revert bV
   revert aO
   revert aG
   revert p2
   revert o4
   revert p4
   revert p1
   revert w8
   exact iZ.out
  refine Later.mk ?_
  intro w7 p1 p2 aA aY bM ae aa
  refine q07 (i:=0) (j:=6) (by kernel_rfl) rfl rfl ?_ ?_
  ·skip
   intro K hK
   go_simp
   refine hK.out _ _ (Or.inr (aA.alloc _)) ?_
   clear hK K
   have hn:=NI.new aA 38
   have hal:=(G.refl w7).alloc (.cells #[.bool false,.slice none 0 0] 38)
   have aG:=G.trans aA hal
   have aO:=hid (aY.out.G hal)
   have bY:=hid (bM.out.G hal)
   have af:w7.heap.size≠p1:=by have:=aY.out.2.1;omega
   have au:w7.heap.size≠p2:=by have:=bM.out.2.1;omega
   generalize w7.heap.size=p0 at *
   generalize w7.alloc (.cells #[.bool false,.slice none 0 0] 38)=w8 at *
   have dB:=hid hn
   have ah:Hid (p1≠p0):=af.symm
   have ag:Hid (p0≠p1):=af
   have aj:Hid (p2≠p0):=au.symm
   have ai:Hid (p0≠p2):=au
   clear hn hal aA aY bM af au
   refine q00 (l':=#[true,true,true,true,true,true,false,false,true,true,true,true,true,false,false,false,false]) (by kernel_rfl) ?_
   revert aj
   revert ah
   revert aa
   revert ai
   revert ae
   revert ag
   revert bY
   revert aO
   revert dB
   revert aG
   revert p2
   revert p1
   revert p0
   revert w8
   exact lQ.out
  ·skip
   intro K hK
   go_simp
   go_wp2_with (go_at_call 50;refine Calls.mono (P:=Tryz.prog) (q0H w w7 aA b2 ya yb dJ hby kH.out) ?_;intro e w8 hx;obtain⟨p4,o4,rfl,hg,h72,fP⟩:=hx)
   refine hK.out _ _ (Or.inr (G.trans aA hg)) ?_
   clear hK K
   have aG:=G.trans aA hg
   have bV:=hid h72
   have af:p4≠p1:=by have h1:=aY.out.1;have h2:=aY.out.2.1;omega
   have au:p4≠p2:=by have h1:=bM.out.1;have h2:=bM.out.2.1;omega
   have aO:=hid (aY.out.G hg)
   have bY:=hid (bM.out.G hg)
   have ak:Hid (p4≠p1):=af
   have av:Hid (p4≠p2):=au
   clear hg h72 fP aA aY bM af au
   refine q00 (l':=#[false,true,true,true,true,true,true,false,true,true,true,true,true,false,false,false,false]) (by kernel_rfl) ?_
   revert av
   revert aa
   revert ae
   revert ak
   revert bY
   revert bV
   revert aO
   revert aG
   revert p2
   revert o4
   revert p4
   revert p1
   revert w8
   exact iZ.out
  refine Later.mk ?_
  intro w7 p0 p4 o4 aA dz HD7 az
  refine q07 (i:=1) (j:=8) (by kernel_rfl) rfl rfl ?_ ?_
  ·skip
   intro K hK
   go_simp
   refine hK.out _ _ (Or.inr (aA.alloc _)) ?_
   clear hK K
   have hn:=NI.new aA 38
   have hal:=(G.refl w7).alloc (.cells #[.bool false,.slice none 0 0] 38)
   have aG:=G.trans aA hal
   have dB:=hid (dz.out.G hal)
   have bV:=hid (HD7.out.G hal)
   have ax:w7.heap.size≠p0:=by have:=dz.out.2.1;omega
   have ay:w7.heap.size≠p4:=by have:=(HD7.out.is aA).1;omega
   generalize w7.heap.size=p1 at *
   generalize w7.alloc (.cells #[.bool false,.slice none 0 0] 38)=w8 at *
   have aO:=hid hn
   have ag:Hid (p0≠p1):=ax.symm
   have ah:Hid (p1≠p0):=ax
   have ak:Hid (p4≠p1):=ay.symm
   clear hn hal aA dz HD7 ax ay
   refine q00 (l':=#[true,true,true,true,true,true,true,false,false,true,true,true,true,false,false,false,false]) (by kernel_rfl) ?_
   revert az
   revert ah
   revert ak
   revert ag
   revert bV
   revert aO
   revert dB
   revert aG
   revert o4
   revert p4
   revert p1
   revert p0
   revert w8
   exact lS.out
  ·skip
   intro K hK
   go_simp
   refine hK.out _ _ (Or.inr (aA.alloc _)) ?_
   clear hK K
   have hn:=NI.new aA 38
   have hal:=(G.refl w7).alloc (.cells #[.bool false,.slice none 0 0] 38)
   have aG:=G.trans aA hal
   have dB:=hid (dz.out.G hal)
   have bV:=hid (HD7.out.G hal)
   have ax:w7.heap.size≠p0:=by have:=dz.out.2.1;omega
   have ay:w7.heap.size≠p4:=by have:=(HD7.out.is aA).1;omega
   generalize w7.heap.size=p2 at *
   generalize w7.alloc (.cells #[.bool false,.slice none 0 0] 38)=w8 at *
   have bY:=hid hn
   have ai:Hid (p0≠p2):=ax.symm
   have aj:Hid (p2≠p0):=ax
   have av:Hid (p4≠p2):=ay.symm
   clear hn hal aA dz HD7 ax ay
   refine q00 (l':=#[true,false,true,true,true,true,true,false,true,true,true,true,true,false,false,false,false]) (by kernel_rfl) ?_
   revert aj
   revert az
   revert av
   revert ai
   revert bY
   revert bV
   revert dB
   revert aG
   revert p2
   revert o4
   revert p4
   revert p0
   revert w8
   exact lT.out
  refine Later.mk ?_
  intro w7 p0 p2 aA dz bM ai aj
  refine q07 (i:=1) (j:=6) (by kernel_rfl) rfl rfl ?_ ?_
  ·skip
   intro K hK
   go_simp
   refine hK.out _ _ (Or.inr (aA.alloc _)) ?_
   clear hK K
   have hn:=NI.new aA 38
   have hal:=(G.refl w7).alloc (.cells #[.bool false,.slice none 0 0] 38)
   have aG:=G.trans aA hal
   have dB:=hid (dz.out.G hal)
   have bY:=hid (bM.out.G hal)
   have ax:w7.heap.size≠p0:=by have:=dz.out.2.1;omega
   have au:w7.heap.size≠p2:=by have:=bM.out.2.1;omega
   generalize w7.heap.size=p1 at *
   generalize w7.alloc (.cells #[.bool false,.slice none 0 0] 38)=w8 at *
   have aO:=hid hn
   have ag:Hid (p0≠p1):=ax.symm
   have ah:Hid (p1≠p0):=ax
   have ae:Hid (p2≠p1):=au.symm
   have aa:Hid (p1≠p2):=au
   clear hn hal aA dz bM ax au
   refine q00 (l':=#[true,true,true,true,true,true,false,false,true,true,true,true,true,false,false,false,false]) (by kernel_rfl) ?_
   revert aj
   revert ah
   revert aa
   revert ai
   revert ae
   revert ag
   revert bY
   revert aO
   revert dB
   revert aG
   revert p2
   revert p1
   revert p0
   revert w8
   exact lQ.out
  ·skip
   intro K hK
   go_simp
   go_wp2_with (go_at_call 50;refine Calls.mono (P:=Tryz.prog) (q0H w w7 aA b2 ya yb dJ hby kH.out) ?_;intro e w8 hx;obtain⟨p4,o4,rfl,hg,h72,fP⟩:=hx)
   refine hK.out _ _ (Or.inr (G.trans aA hg)) ?_
   clear hK K
   have aG:=G.trans aA hg
   have bV:=hid h72
   have ax:p4≠p0:=by have h1:=dz.out.1;have h2:=dz.out.2.1;omega
   have au:p4≠p2:=by have h1:=bM.out.1;have h2:=bM.out.2.1;omega
   have dB:=hid (dz.out.G hg)
   have bY:=hid (bM.out.G hg)
   have az:Hid (p4≠p0):=ax
   have av:Hid (p4≠p2):=au
   clear hg h72 fP aA dz bM ax au
   refine q00 (l':=#[true,false,true,true,true,true,true,false,true,true,true,true,true,false,false,false,false]) (by kernel_rfl) ?_
   revert aj
   revert az
   revert av
   revert ai
   revert bY
   revert bV
   revert dB
   revert aG
   revert p2
   revert o4
   revert p4
   revert p0
   revert w8
   exact lT.out
  refine Later.mk ?_
  intro w7 p0 p1 aA dz aY ag ah
  refine q07 (i:=6) (j:=8) (by kernel_rfl) rfl rfl ?_ ?_
  ·skip
   intro K hK
   go_simp
   go_wp2_with (go_at_call 50;refine Calls.mono (P:=Tryz.prog) (q0H w w7 aA b2 ya yb dJ hby kH.out) ?_;intro e w8 hx;obtain⟨p4,o4,rfl,hg,h72,fP⟩:=hx)
   refine hK.out _ _ (Or.inr (G.trans aA hg)) ?_
   clear hK K
   have aG:=G.trans aA hg
   have bV:=hid h72
   have ax:p4≠p0:=by have h1:=dz.out.1;have h2:=dz.out.2.1;omega
   have af:p4≠p1:=by have h1:=aY.out.1;have h2:=aY.out.2.1;omega
   have dB:=hid (dz.out.G hg)
   have aO:=hid (aY.out.G hg)
   have az:Hid (p4≠p0):=ax
   have ak:Hid (p4≠p1):=af
   clear hg h72 fP aA dz aY ax af
   refine q00 (l':=#[true,true,true,true,true,true,true,false,false,true,true,true,true,false,false,false,false]) (by kernel_rfl) ?_
   revert az
   revert ah
   revert ak
   revert ag
   revert bV
   revert aO
   revert dB
   revert aG
   revert o4
   revert p4
   revert p1
   revert p0
   revert w8
   exact lS.out
  ·skip
   intro K hK
   go_simp
   refine hK.out _ _ (Or.inr (aA.alloc _)) ?_
   clear hK K
   have hn:=NI.new aA 38
   have hal:=(G.refl w7).alloc (.cells #[.bool false,.slice none 0 0] 38)
   have aG:=G.trans aA hal
   have dB:=hid (dz.out.G hal)
   have aO:=hid (aY.out.G hal)
   have ax:w7.heap.size≠p0:=by have:=dz.out.2.1;omega
   have af:w7.heap.size≠p1:=by have:=aY.out.2.1;omega
   generalize w7.heap.size=p2 at *
   generalize w7.alloc (.cells #[.bool false,.slice none 0 0] 38)=w8 at *
   have bY:=hid hn
   have ai:Hid (p0≠p2):=ax.symm
   have aj:Hid (p2≠p0):=ax
   have aa:Hid (p1≠p2):=af.symm
   have ae:Hid (p2≠p1):=af
   clear hn hal aA dz aY ax af
   refine q00 (l':=#[true,true,true,true,true,true,false,false,true,true,true,true,true,false,false,false,false]) (by kernel_rfl) ?_
   revert aj
   revert ah
   revert aa
   revert ai
   revert ae
   revert ag
   revert bY
   revert aO
   revert dB
   revert aG
   revert p2
   revert p1
   revert p0
   revert w8
   exact lQ.out
  refine Later.mk ?_
  intro w8 p1 p4 o4 p2 aG aO bV bY ak ae aa av
  refine q07 (i:=0) (j:=7) (by kernel_rfl) rfl rfl ?_ ?_
  ·skip
   intro K hK
   go_simp
   refine hK.out _ _ (Or.inr (aG.alloc _)) ?_
   clear hK K
   have hn:=NI.new aG 38
   have hal:=(G.refl w8).alloc (.cells #[.bool false,.slice none 0 0] 38)
   have aJ:=G.trans aG hal
   have aT:=hid (aO.out.G hal)
   have dx:=hid (bV.out.G hal)
   have dR:=hid (bY.out.G hal)
   have af:w8.heap.size≠p1:=by have:=aO.out.2.1;omega
   have ay:w8.heap.size≠p4:=by have:=(bV.out.is aG).1;omega
   have au:w8.heap.size≠p2:=by have:=bY.out.2.1;omega
   generalize w8.heap.size=p0 at *
   generalize w8.alloc (.cells #[.bool false,.slice none 0 0] 38)=w9 at *
   have fO:=hid hn
   have ah:Hid (p1≠p0):=af.symm
   have ag:Hid (p0≠p1):=af
   have az:Hid (p4≠p0):=ay.symm
   have aj:Hid (p2≠p0):=au.symm
   have ai:Hid (p0≠p2):=au
   clear hn hal aG aO bV bY af ay au
   refine q00 (l':=#[true,true,true,true,true,true,true,false,true,true,true,true,true,false,false,false,false]) (by kernel_rfl) ?_
   revert aj
   revert az
   revert ah
   revert av
   revert aa
   revert ai
   revert ae
   revert ak
   revert ag
   revert dR
   revert dx
   revert aT
   revert fO
   revert aJ
   revert p2
   revert o4
   revert p4
   revert p1
   revert p0
   revert w9
   exact iD.out
  ·skip
   intro K hK
   go_simp
   have dL:Hid _:=q0Y w8 p1 0 bx 0 p4 o4 0 xa yb KB (by omega) jh.out iY.out aO.out.2.1 (G.lt aG hbx) (bV.out.is aG).1 aO.out.2.2 (IntIs.G HX0.out hbx aG) (bV.out.is aG).2
   go_wp2_with (go_at_call 49;refine Calls.mono (P:=Tryz.prog) dL.out ?_;intro e w9 hx;obtain⟨rfl,aJ,hl,-,hkp⟩:=SetTo.step aG aO.out hx)
   have aT:=hid hl
   have dx:=hid (DI.keep bV.out (hkp _ _ ak.out))
   have dR:=hid (hkp _ _ ae.out bY.out)
   refine hK.out _ _ (Or.inr aJ) ?_
   clear hK K hx hl hkp dL aG aO bV bY
   refine q00 (l':=#[false,true,true,true,true,true,true,true,true,true,true,true,true,false,false,false,false]) (by kernel_rfl) ?_
   revert av
   revert aa
   revert ae
   revert ak
   revert dR
   revert dx
   revert aT
   revert aJ
   revert p2
   revert o4
   revert p4
   revert p1
   revert w9
   exact fH.out
  refine Later.mk ?_
  intro w8 p0 p4 o4 p2 aG dB bV bY ai av az aj
  refine q03 (i:=1) (by kernel_rfl) rfl ?_
  intro K hK
  go_simp
  refine hK.out _ _ (Or.inr (aG.alloc _)) ?_
  clear hK K
  have hn:=NI.new aG 38
  have hal:=(G.refl w8).alloc (.cells #[.bool false,.slice none 0 0] 38)
  have aJ:=G.trans aG hal
  have fO:=hid (dB.out.G hal)
  have dx:=hid (bV.out.G hal)
  have dR:=hid (bY.out.G hal)
  have ax:w8.heap.size≠p0:=by have:=dB.out.2.1;omega
  have ay:w8.heap.size≠p4:=by have:=(bV.out.is aG).1;omega
  have au:w8.heap.size≠p2:=by have:=bY.out.2.1;omega
  generalize w8.heap.size=p1 at *
  generalize w8.alloc (.cells #[.bool false,.slice none 0 0] 38)=w9 at *
  have aT:=hid hn
  have ag:Hid (p0≠p1):=ax.symm
  have ah:Hid (p1≠p0):=ax
  have ak:Hid (p4≠p1):=ay.symm
  have ae:Hid (p2≠p1):=au.symm
  have aa:Hid (p1≠p2):=au
  clear hn hal aG dB bV bY ax ay au
  refine q00 (l':=#[true,true,true,true,true,true,true,false,true,true,true,true,true,false,false,false,false]) (by kernel_rfl) ?_
  revert aj
  revert az
  revert ah
  revert av
  revert aa
  revert ai
  revert ae
  revert ak
  revert ag
  revert dR
  revert dx
  revert aT
  revert fO
  revert aJ
  revert p2
  revert o4
  revert p4
  revert p1
  revert p0
  revert w9
  exact iD.out
  refine Later.mk ?_
  intro w8 p0 p1 p4 o4 aG dB aO bV ag ak ah az
  refine q07 (i:=7) (j:=8) (by kernel_rfl) rfl rfl ?_ ?_
  ·skip
   intro K hK
   go_simp
   have dL:Hid _:=q0Y w8 p1 0 bx 0 p4 o4 0 xa yb KB (by omega) jh.out iY.out aO.out.2.1 (G.lt aG hbx) (bV.out.is aG).1 aO.out.2.2 (IntIs.G HX0.out hbx aG) (bV.out.is aG).2
   go_wp2_with (go_at_call 49;refine Calls.mono (P:=Tryz.prog) dL.out ?_;intro e w9 hx;obtain⟨rfl,aJ,hl,-,hkp⟩:=SetTo.step aG aO.out hx)
   have aT:=hid hl
   have fO:=hid (hkp _ _ ag.out dB.out)
   have dx:=hid (DI.keep bV.out (hkp _ _ ak.out))
   refine hK.out _ _ (Or.inr aJ) ?_
   clear hK K hx hl hkp dL aG dB aO bV
   refine q00 (l':=#[true,true,true,true,true,true,true,true,false,true,true,true,true,false,false,false,false]) (by kernel_rfl) ?_
   revert az
   revert ah
   revert ak
   revert ag
   revert dx
   revert aT
   revert fO
   revert aJ
   revert o4
   revert p4
   revert p1
   revert p0
   revert w9
   exact lN.out
  ·skip
   intro K hK
   go_simp
   refine hK.out _ _ (Or.inr (aG.alloc _)) ?_
   clear hK K
   have hn:=NI.new aG 38
   have hal:=(G.refl w8).alloc (.cells #[.bool false,.slice none 0 0] 38)
   have aJ:=G.trans aG hal
   have fO:=hid (dB.out.G hal)
   have aT:=hid (aO.out.G hal)
   have dx:=hid (bV.out.G hal)
   have ax:w8.heap.size≠p0:=by have:=dB.out.2.1;omega
   have af:w8.heap.size≠p1:=by have:=aO.out.2.1;omega
   have ay:w8.heap.size≠p4:=by have:=(bV.out.is aG).1;omega
   generalize w8.heap.size=p2 at *
   generalize w8.alloc (.cells #[.bool false,.slice none 0 0] 38)=w9 at *
   have dR:=hid hn
   have ai:Hid (p0≠p2):=ax.symm
   have aj:Hid (p2≠p0):=ax
   have aa:Hid (p1≠p2):=af.symm
   have ae:Hid (p2≠p1):=af
   have av:Hid (p4≠p2):=ay.symm
   clear hn hal aG dB aO bV ax af ay
   refine q00 (l':=#[true,true,true,true,true,true,true,false,true,true,true,true,true,false,false,false,false]) (by kernel_rfl) ?_
   revert aj
   revert az
   revert ah
   revert av
   revert aa
   revert ai
   revert ae
   revert ak
   revert ag
   revert dR
   revert dx
   revert aT
   revert fO
   revert aJ
   revert p2
   revert o4
   revert p4
   revert p1
   revert p0
   revert w9
   exact iD.out
  refine Later.mk ?_
  intro w8 p0 p1 p2 aG dB aO bY ag ae ai aa ah aj
  refine q03 (i:=6) (by kernel_rfl) rfl ?_
  intro K hK
  go_simp
  go_wp2_with (go_at_call 50;refine Calls.mono (P:=Tryz.prog) (q0H w w8 aG b2 ya yb dJ hby kH.out) ?_;intro e w9 hx;obtain⟨p4,o4,rfl,hg,h72,fP⟩:=hx)
  refine hK.out _ _ (Or.inr (G.trans aG hg)) ?_
  clear hK K
  have aJ:=G.trans aG hg
  have dx:=hid h72
  have ax:p4≠p0:=by have h1:=dB.out.1;have h2:=dB.out.2.1;omega
  have af:p4≠p1:=by have h1:=aO.out.1;have h2:=aO.out.2.1;omega
  have au:p4≠p2:=by have h1:=bY.out.1;have h2:=bY.out.2.1;omega
  have fO:=hid (dB.out.G hg)
  have aT:=hid (aO.out.G hg)
  have dR:=hid (bY.out.G hg)
  have az:Hid (p4≠p0):=ax
  have ak:Hid (p4≠p1):=af
  have av:Hid (p4≠p2):=au
  clear hg h72 fP aG dB aO bY ax af au
  refine q00 (l':=#[true,true,true,true,true,true,true,false,true,true,true,true,true,false,false,false,false]) (by kernel_rfl) ?_
  revert aj
  revert az
  revert ah
  revert av
  revert aa
  revert ai
  revert ae
  revert ak
  revert ag
  revert dR
  revert dx
  revert aT
  revert fO
  revert aJ
  revert p2
  revert o4
  revert p4
  revert p1
  revert p0
  revert w9
  exact iD.out
  refine Later.mk ?_
  intro w9 p1 p4 o4 p2 aJ aT dx dR ak ae aa av
  refine q07 (i:=0) (j:=13) (by kernel_rfl) rfl rfl ?_ ?_
  ·skip
   intro K hK
   go_simp
   refine hK.out _ _ (Or.inr (aJ.alloc _)) ?_
   clear hK K
   have hn:=NI.new aJ 38
   have hal:=(G.refl w9).alloc (.cells #[.bool false,.slice none 0 0] 38)
   have aF:=G.trans aJ hal
   have aM:=hid (aT.out.G hal)
   have bK:=hid (dx.out.G hal)
   have aP:=hid (dR.out.G hal)
   have af:w9.heap.size≠p1:=by have:=aT.out.2.1;omega
   have ay:w9.heap.size≠p4:=by have:=(dx.out.is aJ).1;omega
   have au:w9.heap.size≠p2:=by have:=dR.out.2.1;omega
   generalize w9.heap.size=p0 at *
   generalize w9.alloc (.cells #[.bool false,.slice none 0 0] 38)=aS at *
   have dh:=hid hn
   have ah:Hid (p1≠p0):=af.symm
   have ag:Hid (p0≠p1):=af
   have az:Hid (p4≠p0):=ay.symm
   have aj:Hid (p2≠p0):=au.symm
   have ai:Hid (p0≠p2):=au
   clear hn hal aJ aT dx dR af ay au
   refine q00 (l':=#[true,true,true,true,true,true,true,true,true,true,true,true,true,false,false,false,false]) (by kernel_rfl) ?_
   revert aj
   revert az
   revert ah
   revert av
   revert aa
   revert ai
   revert ae
   revert ak
   revert ag
   revert aP
   revert bK
   revert aM
   revert dh
   revert aF
   revert p2
   revert o4
   revert p4
   revert p1
   revert p0
   revert aS
   exact iC.out
  ·skip
   intro K hK
   go_simp
   go_wp2_with (go_at_call 50;refine Calls.mono (P:=Tryz.prog) (q0H w w9 aJ bx xa xb iB hbx nJ.out) ?_;intro e aS hx;obtain⟨p3,o3,rfl,hg,h72,fP⟩:=hx)
   refine hK.out _ _ (Or.inr (G.trans aJ hg)) ?_
   clear hK K
   have aF:=G.trans aJ hg
   have bX:=hid h72
   have af:p3≠p1:=by have h1:=aT.out.1;have h2:=aT.out.2.1;omega
   have au:p3≠p2:=by have h1:=dR.out.1;have h2:=dR.out.2.1;omega
   have aM:=hid (aT.out.G hg)
   have bK:=hid (dx.out.G hg)
   have aP:=hid (dR.out.G hg)
   have aK:Hid (p3≠p1):=af
   have aL:Hid (p3≠p2):=au
   clear hg h72 fP aJ aT dx dR af au
   refine q00 (l':=#[false,true,true,true,true,true,true,true,true,true,true,true,true,true,false,false,false]) (by kernel_rfl) ?_
   revert aL
   revert av
   revert aa
   revert aK
   revert ae
   revert ak
   revert bX
   revert aP
   revert bK
   revert aM
   revert aF
   revert o3
   revert p3
   revert p2
   revert o4
   revert p4
   revert p1
   revert aS
   exact dK.out
  refine Later.mk ?_
  intro w9 p0 p1 p4 o4 aJ fO aT dx ag ak ah az
  refine q07 (i:=8) (j:=13) (by kernel_rfl) rfl rfl ?_ ?_
  ·skip
   intro K hK
   go_simp
   refine hK.out _ _ (Or.inr (aJ.alloc _)) ?_
   clear hK K
   have hn:=NI.new aJ 38
   have hal:=(G.refl w9).alloc (.cells #[.bool false,.slice none 0 0] 38)
   have aF:=G.trans aJ hal
   have dh:=hid (fO.out.G hal)
   have aM:=hid (aT.out.G hal)
   have bK:=hid (dx.out.G hal)
   have ax:w9.heap.size≠p0:=by have:=fO.out.2.1;omega
   have af:w9.heap.size≠p1:=by have:=aT.out.2.1;omega
   have ay:w9.heap.size≠p4:=by have:=(dx.out.is aJ).1;omega
   generalize w9.heap.size=p2 at *
   generalize w9.alloc (.cells #[.bool false,.slice none 0 0] 38)=aS at *
   have aP:=hid hn
   have ai:Hid (p0≠p2):=ax.symm
   have aj:Hid (p2≠p0):=ax
   have aa:Hid (p1≠p2):=af.symm
   have ae:Hid (p2≠p1):=af
   have av:Hid (p4≠p2):=ay.symm
   clear hn hal aJ fO aT dx ax af ay
   refine q00 (l':=#[true,true,true,true,true,true,true,true,true,true,true,true,true,false,false,false,false]) (by kernel_rfl) ?_
   revert aj
   revert az
   revert ah
   revert av
   revert aa
   revert ai
   revert ae
   revert ak
   revert ag
   revert aP
   revert bK
   revert aM
   revert dh
   revert aF
   revert p2
   revert o4
   revert p4
   revert p1
   revert p0
   revert aS
   exact iC.out
  ·skip
   intro K hK
   go_simp
   go_wp2_with (go_at_call 50;refine Calls.mono (P:=Tryz.prog) (q0H w w9 aJ bx xa xb iB hbx nJ.out) ?_;intro e aS hx;obtain⟨p3,o3,rfl,hg,h72,fP⟩:=hx)
   refine hK.out _ _ (Or.inr (G.trans aJ hg)) ?_
   clear hK K
   have aF:=G.trans aJ hg
   have bX:=hid h72
   have ax:p3≠p0:=by have h1:=fO.out.1;have h2:=fO.out.2.1;omega
   have af:p3≠p1:=by have h1:=aT.out.1;have h2:=aT.out.2.1;omega
   have dh:=hid (fO.out.G hg)
   have aM:=hid (aT.out.G hg)
   have bK:=hid (dx.out.G hg)
   have aZ:Hid (p3≠p0):=ax
   have aK:Hid (p3≠p1):=af
   clear hg h72 fP aJ fO aT dx ax af
   refine q00 (l':=#[true,true,true,true,true,true,true,true,false,true,true,true,true,true,false,false,false]) (by kernel_rfl) ?_
   revert aZ
   revert az
   revert ah
   revert aK
   revert ak
   revert ag
   revert bX
   revert bK
   revert aM
   revert dh
   revert aF
   revert o3
   revert p3
   revert o4
   revert p4
   revert p1
   revert p0
   revert aS
   exact ku.out
  refine Later.mk ?_
  intro w9 p0 p1 p4 o4 p2 aJ fO aT dx dR ag ak ae ai aa av ah az aj
  refine q03 (i:=7) (by kernel_rfl) rfl ?_
  intro K hK
  go_simp
  have dL:Hid _:=q0Y w9 p1 0 bx 0 p4 o4 0 xa yb KB (by omega) jh.out iY.out aT.out.2.1 (G.lt aJ hbx) (dx.out.is aJ).1 aT.out.2.2 (IntIs.G HX0.out hbx aJ) (dx.out.is aJ).2
  go_wp2_with (go_at_call 49;refine Calls.mono (P:=Tryz.prog) dL.out ?_;intro e aS hx;obtain⟨rfl,aF,hl,-,hkp⟩:=SetTo.step aJ aT.out hx)
  have aM:=hid hl
  have dh:=hid (hkp _ _ ag.out fO.out)
  have bK:=hid (DI.keep dx.out (hkp _ _ ak.out))
  have aP:=hid (hkp _ _ ae.out dR.out)
  refine hK.out _ _ (Or.inr aF) ?_
  clear hK K hx hl hkp dL aJ fO aT dx dR
  refine q00 (l':=#[true,true,true,true,true,true,true,true,true,true,true,true,true,false,false,false,false]) (by kernel_rfl) ?_
  revert aj
  revert az
  revert ah
  revert av
  revert aa
  revert ai
  revert ae
  revert ak
  revert ag
  revert aP
  revert bK
  revert aM
  revert dh
  revert aF
  revert p2
  revert o4
  revert p4
  revert p1
  revert p0
  revert aS
  exact iC.out
  refine Later.mk ?_
  intro aS p1 p4 o4 p2 p3 o3 aF aM bK aP bX ak ae aK aa av aL
  refine q07 (i:=0) (j:=14) (by kernel_rfl) rfl rfl ?_ ?_
  ·skip
   intro K hK
   go_simp
   refine hK.out _ _ (Or.inr (aF.alloc _)) ?_
   clear hK K
   have hn:=NI.new aF 38
   have hal:=(G.refl aS).alloc (.cells #[.bool false,.slice none 0 0] 38)
   have aR:=G.trans aF hal
   have dI:=hid (aM.out.G hal)
   have ji:=hid (bK.out.G hal)
   have dw:=hid (aP.out.G hal)
   have iI:=hid (bX.out.G hal)
   have af:aS.heap.size≠p1:=by have:=aM.out.2.1;omega
   have ay:aS.heap.size≠p4:=by have:=(bK.out.is aF).1;omega
   have au:aS.heap.size≠p2:=by have:=aP.out.2.1;omega
   have dD:aS.heap.size≠p3:=by have:=(bX.out.is aF).1;omega
   generalize aS.heap.size=p0 at *
   generalize aS.alloc (.cells #[.bool false,.slice none 0 0] 38)=bR at *
   have ja:=hid hn
   have ah:Hid (p1≠p0):=af.symm
   have ag:Hid (p0≠p1):=af
   have az:Hid (p4≠p0):=ay.symm
   have aj:Hid (p2≠p0):=au.symm
   have ai:Hid (p0≠p2):=au
   have aZ:Hid (p3≠p0):=dD.symm
   clear hn hal aF aM bK aP bX af ay au dD
   refine q00 (l':=#[true,true,true,true,true,true,true,true,true,true,true,true,true,true,false,false,false]) (by kernel_rfl) ?_
   revert aZ
   revert aj
   revert az
   revert ah
   revert aL
   revert av
   revert aa
   revert ai
   revert aK
   revert ae
   revert ak
   revert ag
   revert iI
   revert dw
   revert ji
   revert dI
   revert ja
   revert aR
   revert o3
   revert p3
   revert p2
   revert o4
   revert p4
   revert p1
   revert p0
   revert bR
   exact fG.out
  ·skip
   intro K hK
   go_simp
   have dL:Hid _:=q0Y aS p2 0 b2 0 p3 o3 0 ya xb KB (by omega) lM.out kQ.out aP.out.2.1 (G.lt aF hby) (bX.out.is aF).1 aP.out.2.2 (IntIs.G tq.out hby aF) (bX.out.is aF).2
   go_wp2_with (go_at_call 49;refine Calls.mono (P:=Tryz.prog) dL.out ?_;intro e bR hx;obtain⟨rfl,aR,hl,-,hkp⟩:=SetTo.step aF aP.out hx)
   have dw:=hid hl
   have dI:=hid (hkp _ _ aa.out aM.out)
   have ji:=hid (DI.keep bK.out (hkp _ _ av.out))
   have iI:=hid (DI.keep bX.out (hkp _ _ aL.out))
   refine hK.out _ _ (Or.inr aR) ?_
   clear hK K hx hl hkp dL aF aM bK aP bX
   refine q03 (i:=0) (by kernel_rfl) rfl ?_
   intro K hK
   go_simp
   refine hK.out _ _ (Or.inr (aR.alloc _)) ?_
   clear hK K
   have hn:=NI.new aR 38
   have hal:=(G.refl bR).alloc (.cells #[.bool false,.slice none 0 0] 38)
   have iE:=G.trans aR hal
   have fZ:=hid (dI.out.G hal)
   have nM:=hid (ji.out.G hal)
   have gp:=hid (dw.out.G hal)
   have nN:=hid (iI.out.G hal)
   have af:bR.heap.size≠p1:=by have:=dI.out.2.1;omega
   have ay:bR.heap.size≠p4:=by have:=(ji.out.is aR).1;omega
   have au:bR.heap.size≠p2:=by have:=dw.out.2.1;omega
   have dD:bR.heap.size≠p3:=by have:=(iI.out.is aR).1;omega
   generalize bR.heap.size=p0 at *
   generalize bR.alloc (.cells #[.bool false,.slice none 0 0] 38)=dQ at *
   have jb:=hid hn
   have ah:Hid (p1≠p0):=af.symm
   have ag:Hid (p0≠p1):=af
   have az:Hid (p4≠p0):=ay.symm
   have aj:Hid (p2≠p0):=au.symm
   have ai:Hid (p0≠p2):=au
   have aZ:Hid (p3≠p0):=dD.symm
   clear hn hal aR dI ji dw iI af ay au dD
   refine q00 (l':=#[true,true,true,true,true,true,true,true,true,true,true,true,true,true,true,false,false]) (by kernel_rfl) ?_
   revert aZ
   revert aj
   revert az
   revert ah
   revert aL
   revert av
   revert aa
   revert ai
   revert aK
   revert ae
   revert ak
   revert ag
   revert nN
   revert gp
   revert nM
   revert fZ
   revert jb
   revert iE
   revert o3
   revert p3
   revert p2
   revert o4
   revert p4
   revert p1
   revert p0
   revert dQ
   exact fV.out
  refine Later.mk ?_
  intro aS p0 p1 p4 o4 p3 o3 aF dh aM bK bX ag ak aK ah az aZ
  refine q03 (i:=8) (by kernel_rfl) rfl ?_
  intro K hK
  go_simp
  refine hK.out _ _ (Or.inr (aF.alloc _)) ?_
  clear hK K
  have hn:=NI.new aF 38
  have hal:=(G.refl aS).alloc (.cells #[.bool false,.slice none 0 0] 38)
  have aR:=G.trans aF hal
  have ja:=hid (dh.out.G hal)
  have dI:=hid (aM.out.G hal)
  have ji:=hid (bK.out.G hal)
  have iI:=hid (bX.out.G hal)
  have ax:aS.heap.size≠p0:=by have:=dh.out.2.1;omega
  have af:aS.heap.size≠p1:=by have:=aM.out.2.1;omega
  have ay:aS.heap.size≠p4:=by have:=(bK.out.is aF).1;omega
  have dD:aS.heap.size≠p3:=by have:=(bX.out.is aF).1;omega
  generalize aS.heap.size=p2 at *
  generalize aS.alloc (.cells #[.bool false,.slice none 0 0] 38)=bR at *
  have dw:=hid hn
  have ai:Hid (p0≠p2):=ax.symm
  have aj:Hid (p2≠p0):=ax
  have aa:Hid (p1≠p2):=af.symm
  have ae:Hid (p2≠p1):=af
  have av:Hid (p4≠p2):=ay.symm
  have aL:Hid (p3≠p2):=dD.symm
  clear hn hal aF dh aM bK bX ax af ay dD
  refine q00 (l':=#[true,true,true,true,true,true,true,true,true,true,true,true,true,true,false,false,false]) (by kernel_rfl) ?_
  revert aZ
  revert aj
  revert az
  revert ah
  revert aL
  revert av
  revert aa
  revert ai
  revert aK
  revert ae
  revert ak
  revert ag
  revert iI
  revert dw
  revert ji
  revert dI
  revert ja
  revert aR
  revert o3
  revert p3
  revert p2
  revert o4
  revert p4
  revert p1
  revert p0
  revert bR
  exact fG.out
  refine Later.mk ?_
  intro aS p0 p1 p4 o4 p2 aF dh aM bK aP ag ak ae ai aa av ah az aj
  refine q03 (i:=13) (by kernel_rfl) rfl ?_
  intro K hK
  go_simp
  go_wp2_with (go_at_call 50;refine Calls.mono (P:=Tryz.prog) (q0H w aS aF bx xa xb iB hbx nJ.out) ?_;intro e bR hx;obtain⟨p3,o3,rfl,hg,h72,fP⟩:=hx)
  refine hK.out _ _ (Or.inr (G.trans aF hg)) ?_
  clear hK K
  have aR:=G.trans aF hg
  have iI:=hid h72
  have ax:p3≠p0:=by have h1:=dh.out.1;have h2:=dh.out.2.1;omega
  have af:p3≠p1:=by have h1:=aM.out.1;have h2:=aM.out.2.1;omega
  have au:p3≠p2:=by have h1:=aP.out.1;have h2:=aP.out.2.1;omega
  have ja:=hid (dh.out.G hg)
  have dI:=hid (aM.out.G hg)
  have ji:=hid (bK.out.G hg)
  have dw:=hid (aP.out.G hg)
  have aZ:Hid (p3≠p0):=ax
  have aK:Hid (p3≠p1):=af
  have aL:Hid (p3≠p2):=au
  clear hg h72 fP aF dh aM bK aP ax af au
  refine q00 (l':=#[true,true,true,true,true,true,true,true,true,true,true,true,true,true,false,false,false]) (by kernel_rfl) ?_
  revert aZ
  revert aj
  revert az
  revert ah
  revert aL
  revert av
  revert aa
  revert ai
  revert aK
  revert ae
  revert ak
  revert ag
  revert iI
  revert dw
  revert ji
  revert dI
  revert ja
  revert aR
  revert o3
  revert p3
  revert p2
  revert o4
  revert p4
  revert p1
  revert p0
  revert bR
  exact fG.out
  refine Later.mk ?_
  intro bR p0 p1 p4 o4 p2 p3 o3 aR ja dI ji dw iI ag ak ae aK ai aa av aL ah az aj aZ
  refine q03 (i:=14) (by kernel_rfl) rfl ?_
  intro K hK
  go_simp
  have dL:Hid _:=q0Y bR p2 0 b2 0 p3 o3 0 ya xb KB (by omega) lM.out kQ.out dw.out.2.1 (G.lt aR hby) (iI.out.is aR).1 dw.out.2.2 (IntIs.G tq.out hby aR) (iI.out.is aR).2
  go_wp2_with (go_at_call 49;refine Calls.mono (P:=Tryz.prog) dL.out ?_;intro e dQ hx;obtain⟨rfl,iE,hl,-,hkp⟩:=SetTo.step aR dw.out hx)
  have gp:=hid hl
  have jb:=hid (hkp _ _ ai.out ja.out)
  have fZ:=hid (hkp _ _ aa.out dI.out)
  have nM:=hid (DI.keep ji.out (hkp _ _ av.out))
  have nN:=hid (DI.keep iI.out (hkp _ _ aL.out))
  refine hK.out _ _ (Or.inr iE) ?_
  clear hK K hx hl hkp dL aR ja dI ji dw iI
  refine q00 (l':=#[true,true,true,true,true,true,true,true,true,true,true,true,true,true,true,false,false]) (by kernel_rfl) ?_
  revert aZ
  revert aj
  revert az
  revert ah
  revert aL
  revert av
  revert aa
  revert ai
  revert aK
  revert ae
  revert ak
  revert ag
  revert nN
  revert gp
  revert nM
  revert fZ
  revert jb
  revert iE
  revert o3
  revert p3
  revert p2
  revert o4
  revert p4
  revert p1
  revert p0
  revert dQ
  exact fV.out
  refine Later.mk ?_
  intro dQ p0 p1 p4 o4 p2 p3 o3 iE jb fZ nM gp nN ag ak ae aK ai aa av aL ah az aj aZ
  refine q03 (i:=15) (by kernel_rfl) rfl ?_
  intro K hK
  go_simp
  have dL:Hid _:=q7m dQ p0 0 p1 0 p2 0 0 (xa*(yb:Int)) (ya*(xb:Int)) (2*KB) (by omega) xA.out fJ.out jb.out.2.1 fZ.out.2.1 gp.out.2.1 jb.out.2.2 fZ.out.2.2 gp.out.2.2
  go_wp2_with (go_at_call 65;refine Calls.mono (P:=Tryz.prog) dL.out ?_;intro e jg hx;obtain⟨rfl,nK,hl,-,hkp⟩:=SetTo.step iE jb.out hx)
  have nL:=hid hl
  have rE:=hid (hkp _ _ ah.out fZ.out)
  have Cm:=hid (DI.keep nM.out (hkp _ _ az.out))
  have rF:=hid (hkp _ _ aj.out gp.out)
  have Cn:=hid (DI.keep nN.out (hkp _ _ aZ.out))
  refine hK.out _ _ (Or.inl (by decide)) ?_
  clear hK K hx hl hkp dL iE jb fZ nM gp nN
  refine q03 (i:=16) (by kernel_rfl) rfl ?_
  intro K hK
  go_simp
  refine hK.out _ _ (Or.inl (by decide)) ?_
  clear hK K
  refine q0j (by kernel_rfl) ?_ _
  revert aZ
  revert aj
  revert az
  revert ah
  revert aL
  revert av
  revert aa
  revert ai
  revert aK
  revert ae
  revert ak
  revert ag
  revert Cn
  revert rF
  revert Cm
  revert rE
  revert nL
  revert nK
  revert o3
  revert p3
  revert p2
  revert o4
  revert p4
  revert p1
  revert p0
  revert jg
  exact LX.out
 ·skip
  refine Later.mk ?_
  intro jg p0 p1 p4 o4 p2 p3 o3 nK nL rE Cm rF Cn ag ak ae aK ai aa av aL ah az aj aZ
  clear ag ak ae aK ai aa av aL ah az aj aZ
  have HS:=nL.out
  have hG:=nK
  clear nL rE rF Cm Cn nK
  have wT:Hid (NI w jg p0 (xa*(yb:Int)+ya*(xb:Int))):=HS
  clear HS
  go_wp2_with fail
  have hn0:=NI.new hG 38
  have hal:=(G.refl jg).alloc (.cells #[.bool false,.slice none 0 0] 38)
  have hG1:=G.trans hG hal
  have hs1:=wT.out.G hal
  have hne:p0≠jg.heap.size:=by have:=wT.out.2.1;omega
  generalize jg.heap.size=pd at *
  generalize jg.alloc (.cells #[.bool false,.slice none 0 0] 38)=v1 at *
  have lq:Hid (NI w v1 pd 0):=hn0
  have sO:Hid (NI w v1 p0 (xa*(yb:Int)+ya*(xb:Int))):=hs1
  clear hn0 hal hs1 hG wT
  refine Calls.mono (P:=Tryz.prog) (q0H w v1 hG1 bx xa xb iB hbx nJ.out) ?_
  rintro e v2 ⟨pe,oe,rfl,hg2,k2,-⟩
  have HE2:Hid (DI w v2 pe oe xb):=k2
  clear k2
  have hG2:=G.trans hG1 hg2
  have oq:Hid (NI w v2 pd 0):=lq.out.G hg2
  have HS2:Hid (NI w v2 p0 (xa*(yb:Int)+ya*(xb:Int))):=sO.out.G hg2
  clear hG1 hg2 lq sO
  go_wp2_with fail
  refine Calls.mono (P:=Tryz.prog) (q0H w v2 hG2 b2 ya yb dJ hby kH.out) ?_
  rintro e v3 ⟨pf,of,rfl,hg3,k3,-⟩
  have EZ:Hid (DI w v3 pf of yb):=k3
  have hG3:=G.trans hG2 hg3
  have tX:Hid (NI w v3 pd 0):=oq.out.G hg3
  have qK:Hid (NI w v3 p0 (xa*(yb:Int)+ya*(xb:Int))):=HS2.out.G hg3
  have PQ:Hid (DI w v3 pe oe xb):=HE2.out.G hg3
  clear hG2 hg3 oq HS2 HE2 k3
  have HM:Hid _:=q0Y v3 pd 0 pe oe pf of 0 xb yb KB (by omega) kQ.out iY.out tX.out.2.1 (PQ.out.is hG3).1 (EZ.out.is hG3).1 tX.out.2.2 (PQ.out.is hG3).2 (EZ.out.is hG3).2
  go_wp2_with fail
  refine Calls.mono (P:=Tryz.prog) HM.out ?_
  intro e v4 hs
  obtain⟨rfl,hG4,nI,-,hkp⟩:=SetTo.step hG3 tX.out hs
  have xm:Hid (NI w v4 p0 (xa*(yb:Int)+ya*(xb:Int))):=hkp p0 _ hne qK.out
  rw[show (xb:Int)*yb=((xb*yb:Nat):Int) from by push_cast;rfl] at nI
  have sM:Hid (NI w v4 pd ((xb*yb:Nat):Int)):=nI
  clear hs hkp nI HM tX qK hG3 hne
  have HF:Hid _:=q0Z v4 bz p0 0 pd 0 s1 s2 (xa*(yb:Int)+ya*(xb:Int)) (xb*yb) (2*KB+1) (by omega) Nc.out HD2.out HD0.out (G.lt hG4 hbz) xm.out.2.1 sM.out.2.1 (FY.out.G hbz hG4) xm.out.2.2 sM.out.2.2
  go_wp2_with fail
  refine Calls.mono (P:=Tryz.prog) HF.out ?_
  intro e v5 hs
  obtain⟨rfl,k1,k2⟩:=NormTo.after hG4 hs
  have ng:Hid _:=k2
  clear hs k2 HF xm sM
  go_wp2_with fail
  go_ret
  exact⟨rfl,k1,ng.out⟩
end Go.Proofs.YtljkfjjchkehaaaGreatDoor
