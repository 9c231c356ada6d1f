/- What is proved here: contracts of the reference: powers of two as ratios, over this seat's translation.
What is proved here: contracts of the reference's ratios: Sub of Rat, over this seat's translation.
What is proved here: contracts of the reference's ratios: den of any Rat, laid or new, over this seat's translation.
What is proved here: contracts of the reference's ratios: Add of Rat, of laid ones and of new ones, over this seat's translation. -/
import Derived.Test.YtdidnnbpdcanlaaGreatDoorC31
import Derived.Test.YtdidnnbpdcanlaaGreatDoorC28
import Derived.Test.YtdidnnbpdcanlaaGreatDoorC18
namespace Go.Proofs.YtdidnnbpdcanlaaGreatDoor
open Go.ChangeShapes Go.WideShapes Go.ChangeAt Go.RowKit
open BN
/-- A call hands back a new Rat; nothing that was there has turned. -/
def RetR (w:World) (sa:Int) (sb:Nat) (e:Ending) (w':World):Prop:=∃ p,e= .returned (.pointer (some ⟨p,0,none⟩))∧G w w'∧w.heap.size≤p∧p<w'.heap.size∧RatIs w' p sa (sb:Int)
theorem NormTo.ret {w0 w:World} {b:Nat} {sa:Int} {sb:Nat} {e:Ending} {w':World} (g:G w0 w) (hb:w0.heap.size≤b) (hs:b<w.heap.size) (h:NormTo w b sa sb e w'):RetR w0 sa sb e w':=
 ⟨b,h.1,GX.fresh g h.2.1 hb,hb,Nat.lt_of_lt_of_le hs h.2.1.size,h.2.2⟩
set_option maxRecDepth 10000 in
set_option maxHeartbeats 8000000 in
theorem qbC (w:World) (bz bx b2:Nat) (s1 s2 xa ya:Int) (xb yb:Nat) (KB:Nat) (hK:KB≤100000) (hx2:xa.natAbs<2^(32*KB)) (hy2:ya.natAbs<2^(32*KB)) (eX:xb<2^(32*KB)) (fD:yb<2^(32*KB)) (hxb:0<xb) (hyb:0<yb)
  (hbz:bz<w.heap.size) (hbx:bx<w.heap.size) (hby:b2<w.heap.size) (hz:RatIs w bz s1 s2) (hx:RatIs w bx xa xb) (hy:RatIs w b2 ya yb):
  Calls Tryz.prog 73 #[.pointer (some ⟨bz,0,none⟩),.pointer (some ⟨bx,0,none⟩),.pointer (some ⟨b2,0,none⟩)] w (NormTo w bz (Int.tdiv (xa*(yb:Int)-ya*(xb:Int)) (Nat.gcd (xa*(yb:Int)-ya*(xb:Int)).natAbs (xb*yb):Nat)) (xb*yb/Nat.gcd (xa*(yb:Int)-ya*(xb:Int)).natAbs (xb*yb))):=by
 have gI:Hid (xa.natAbs<2^(32*KB)):=hx2
 have jX:Hid (ya.natAbs<2^(32*KB)):=hy2
 have jq:Hid ((xb:Int).natAbs<2^(32*KB)):=by show (xb:Int).natAbs<2^(32*KB);rw[Int.natAbs_natCast];exact eX
 have fV:Hid ((yb:Int).natAbs<2^(32*KB)):=by show (yb:Int).natAbs<2^(32*KB);rw[Int.natAbs_natCast];exact fD
 have HX0:Hid (IntIs w bx 0 xa):=hx.1
 have qc:Hid (IntIs w b2 0 ya):=hy.1
 have Ec:Hid (IntIs w bx 2 xb):=hx.2
 have EE:Hid (IntIs w b2 2 yb):=hy.2
 have lZ:Hid (RatIs w bx xa xb):=hx
 have j3:Hid (RatIs w b2 ya yb):=hy
 have EF:Hid (RatIs w bz s1 s2):=hz
 have fe:(xb:Int)≠0:=by omega
 have dw:(yb:Int)≠0:=by omega
 have pE:32*(2*KB)=32*KB+32*KB:=by omega
 have hn1:(xa*(yb:Int)).natAbs<2^(32*(2*KB)):=by
  rw[Int.natAbs_mul,Int.natAbs_natCast,pE,Nat.pow_add]
  exact Nat.mul_lt_mul'' hx2 fD
 have hn2:(ya*(xb:Int)).natAbs<2^(32*(2*KB)):=by
  rw[Int.natAbs_mul,Int.natAbs_natCast,pE,Nat.pow_add]
  exact Nat.mul_lt_mul'' hy2 eX
 have hd2:xb*yb<2^(32*(2*KB)):=by
  rw[pE,Nat.pow_add]
  exact Nat.mul_lt_mul'' eX fD
 have hup:2^(32*(2*KB))*2≤2^(32*(2*KB+1)):=by rw[← Nat.pow_succ];exact Nat.pow_le_pow_right (by omega) (by omega)
 have kY:Hid ((xa*(yb:Int)).natAbs<2^(32*(2*KB))):=hn1
 have eH:Hid ((ya*(xb:Int)).natAbs<2^(32*(2*KB))):=hn2
 have qj:Hid ((xa*(yb:Int)-ya*(xb:Int)).natAbs<2^(32*(2*KB+1))):=by
  show (xa*(yb:Int)-ya*(xb:Int)).natAbs<2^(32*(2*KB+1))
  have:=Int.natAbs_sub_le (xa*(yb:Int)) (ya*(xb:Int))
  omega
 have HD2:Hid (xb*yb<2^(32*(2*KB+1))):=by show xb*yb<2^(32*(2*KB+1));omega
 have HD0:Hid (0<xb*yb):=Nat.mul_pos hxb hyb
 clear hx hy hz hx2 hy2 eX fD hxb hyb pE hn1 hn2 hd2 hup
 go_enter Tryz.func73,Tryz.ntmps73
 go_wp2_with fail
 apply share
 ·intro LX
  refine q0G 15 (G w) (by kernel_rfl) (by first|exact(G.refl _).drew|exact G.drew (by assumption)) ?_
  intro bG
  refine q02 2 (v:= ?_) rfl (by kernel_rfl) (fun _ _ _ h=>h) rfl ?_ ‹_› ?_
  rotate_left
  ·intro wq hwq
   first|(go_simp;done)|(go_simp;with_reducible rfl)
  try simp only[aput,List.set]
  refine q02 3 (v:= ?_) rfl (by kernel_rfl) (fun _ _ _ h=>h) rfl ?_ ‹_› ?_
  rotate_left
  ·intro wq hwq
   first|(go_simp;done)|(go_simp;with_reducible rfl)
  try simp only[aput,List.set]
  refine q02 4 (v:= ?_) rfl (by kernel_rfl) (fun _ _ _ h=>h) rfl ?_ ‹_› ?_
  rotate_left
  ·intro wq hwq
   first|(go_simp;done)|(go_simp;with_reducible rfl)
  try simp only[aput,List.set]
  refine q02 5 (v:= ?_) rfl (by kernel_rfl) (fun _ _ _ h=>h) rfl ?_ ‹_› ?_
  rotate_left
  ·intro wq hwq
   first|(go_simp;done)|(go_simp;with_reducible rfl)
  try simp only[aput,List.set]
  refine q02 9 (v:= ?_) rfl (by kernel_rfl) (fun _ _ _ h=>h) rfl ?_ ‹_› ?_
  rotate_left
  ·intro wq hwq
   first|(go_simp;done)|(go_simp;with_reducible rfl)
  try simp only[aput,List.set]
  refine q02 10 (v:= ?_) rfl (by kernel_rfl) (fun _ _ _ h=>h) rfl ?_ ‹_› ?_
  rotate_left
  ·intro wq hwq
   first|(go_simp;done)|(go_simp;with_reducible rfl)
  try simp only[aput,List.set]
  refine q02 11 (v:= ?_) rfl (by kernel_rfl) (fun _ _ _ h=>h) rfl ?_ ‹_› ?_
  rotate_left
  ·intro wq hwq
   first|(go_simp;done)|(go_simp;with_reducible rfl)
  try simp only[aput,List.set]
  refine q02 12 (v:= ?_) rfl (by kernel_rfl) (fun _ _ _ h=>h) rfl ?_ ‹_› ?_
  rotate_left
  ·intro wq hwq
   first|(go_simp;done)|(go_simp;with_reducible rfl)
  try simp only[aput,List.set]
  show q0w _ _ _ _ _ _ _ _ _ w.drew
  have hS5:=bG
  generalize w.drew=w5 at *
  clear bG
  apply share
  intro eD
  apply share
  intro dU
  apply share
  intro fo
  apply share
  intro iH
  apply share
  intro dz
  apply share
  intro fq
  apply share
  intro jY
  apply share
  intro dV
  apply share
  intro jZ
  apply share
  intro kg
  apply share
  intro ko
  apply share
  intro fZ
  apply share
  intro su
  apply share
  intro sD
  apply share
  intro sF
  apply share
  intro kr
  apply share
  intro nE
  apply share
  intro nG
  refine q3a (i:=0) (j:=1) (l:=6) (m:=8) (by kernel_rfl) rfl rfl rfl rfl ?_ ?_ ?_ ?_
  ·skip
   intro K hK
   go_simp
   refine hK.out _ _ (Or.inr (hS5.alloc _)) ?_
   clear hK K
   have hn:=NI.new hS5 83
   have hal:=(G.refl w5).alloc (.cells #[.bool false,.slice none 0 0] 83)
   have aI:=G.trans hS5 hal
   generalize w5.heap.size=p0 at *
   generalize w5.alloc (.cells #[.bool false,.slice none 0 0] 83)=w6 at *
   have ma:=hid hn
   clear hn hal
   refine q0m (i:=1) (j:=6) (l:=8) (by kernel_rfl) rfl rfl rfl ?_ ?_ ?_
   ·skip
    intro K hK
    go_simp
    refine hK.out _ _ (Or.inr (aI.alloc _)) ?_
    clear hK K
    have hn:=NI.new aI 83
    have hal:=(G.refl w6).alloc (.cells #[.bool false,.slice none 0 0] 83)
    have aD:=G.trans aI hal
    have cO:=hid (ma.out.G hal)
    have aA:w6.heap.size≠p0:=by have:=ma.out.2.1;omega
    generalize w6.heap.size=p1 at *
    generalize w6.alloc (.cells #[.bool false,.slice none 0 0] 83)=w7 at *
    have aX:=hid hn
    have ag:Hid (p0≠p1):=aA.symm
    have ai:Hid (p1≠p0):=aA
    clear hn hal aI ma aA
    refine q00 (l':=#[true,true,true,true,true,true,false,false,false,true,true,true,true,false,false,false,false]) (by kernel_rfl) ?_
    revert ai
    revert ag
    revert aX
    revert cO
    revert aD
    revert p1
    revert p0
    revert w7
    exact su.out
   ·skip
    intro K hK
    go_simp
    go_wp2_with (go_at_call 76;refine Calls.mono (P:=Tryz.prog) (q28 w6 b2 ya yb dw (j3.out.G hby aI)) ?_;rintro e w7 ⟨rfl,hg⟩)
    refine hK.out _ _ (Or.inr (G.trans aI hg)) ?_
    clear hK K
    have aD:=G.trans aI hg
    have cO:=hid (ma.out.G hg)
    clear hg aI ma
    refine q00 (l':=#[true,false,true,true,true,true,true,false,false,true,true,true,true,false,false,false,false]) (by kernel_rfl) ?_
    revert cO
    revert aD
    revert p0
    revert w7
    exact sF.out
   ·skip
    intro K hK
    go_simp
    refine hK.out _ _ (Or.inr (aI.alloc _)) ?_
    clear hK K
    have hn:=NI.new aI 83
    have hal:=(G.refl w6).alloc (.cells #[.bool false,.slice none 0 0] 83)
    have aD:=G.trans aI hal
    have cO:=hid (ma.out.G hal)
    have aA:w6.heap.size≠p0:=by have:=ma.out.2.1;omega
    generalize w6.heap.size=p2 at *
    generalize w6.alloc (.cells #[.bool false,.slice none 0 0] 83)=w7 at *
    have bE:=hid hn
    have aj:Hid (p0≠p2):=aA.symm
    have ak:Hid (p2≠p0):=aA
    clear hn hal aI ma aA
    refine q00 (l':=#[true,false,true,true,true,true,false,false,true,true,true,true,true,false,false,false,false]) (by kernel_rfl) ?_
    revert ak
    revert aj
    revert bE
    revert cO
    revert aD
    revert p2
    revert p0
    revert w7
    exact sD.out
  ·skip
   intro K hK
   go_simp
   refine hK.out _ _ (Or.inr (hS5.alloc _)) ?_
   clear hK K
   have hn:=NI.new hS5 83
   have hal:=(G.refl w5).alloc (.cells #[.bool false,.slice none 0 0] 83)
   have aI:=G.trans hS5 hal
   generalize w5.heap.size=p1 at *
   generalize w5.alloc (.cells #[.bool false,.slice none 0 0] 83)=w6 at *
   have j4:=hid hn
   clear hn hal
   refine q0m (i:=0) (j:=6) (l:=8) (by kernel_rfl) rfl rfl rfl ?_ ?_ ?_
   ·skip
    intro K hK
    go_simp
    refine hK.out _ _ (Or.inr (aI.alloc _)) ?_
    clear hK K
    have hn:=NI.new aI 83
    have hal:=(G.refl w6).alloc (.cells #[.bool false,.slice none 0 0] 83)
    have aD:=G.trans aI hal
    have aX:=hid (j4.out.G hal)
    have af:w6.heap.size≠p1:=by have:=j4.out.2.1;omega
    generalize w6.heap.size=p0 at *
    generalize w6.alloc (.cells #[.bool false,.slice none 0 0] 83)=w7 at *
    have cO:=hid hn
    have ai:Hid (p1≠p0):=af.symm
    have ag:Hid (p0≠p1):=af
    clear hn hal aI j4 af
    refine q00 (l':=#[true,true,true,true,true,true,false,false,false,true,true,true,true,false,false,false,false]) (by kernel_rfl) ?_
    revert ai
    revert ag
    revert aX
    revert cO
    revert aD
    revert p1
    revert p0
    revert w7
    exact su.out
   ·skip
    intro K hK
    go_simp
    go_wp2_with (go_at_call 76;refine Calls.mono (P:=Tryz.prog) (q28 w6 b2 ya yb dw (j3.out.G hby aI)) ?_;rintro e w7 ⟨rfl,hg⟩)
    refine hK.out _ _ (Or.inr (G.trans aI hg)) ?_
    clear hK K
    have aD:=G.trans aI hg
    have aX:=hid (j4.out.G hg)
    clear hg aI j4
    refine q00 (l':=#[false,true,true,true,true,true,true,false,false,true,true,true,true,false,false,false,false]) (by kernel_rfl) ?_
    revert aX
    revert aD
    revert p1
    revert w7
    exact nE.out
   ·skip
    intro K hK
    go_simp
    refine hK.out _ _ (Or.inr (aI.alloc _)) ?_
    clear hK K
    have hn:=NI.new aI 83
    have hal:=(G.refl w6).alloc (.cells #[.bool false,.slice none 0 0] 83)
    have aD:=G.trans aI hal
    have aX:=hid (j4.out.G hal)
    have af:w6.heap.size≠p1:=by have:=j4.out.2.1;omega
    generalize w6.heap.size=p2 at *
    generalize w6.alloc (.cells #[.bool false,.slice none 0 0] 83)=w7 at *
    have bE:=hid hn
    have aa:Hid (p1≠p2):=af.symm
    have ae:Hid (p2≠p1):=af
    clear hn hal aI j4 af
    refine q00 (l':=#[false,true,true,true,true,true,false,false,true,true,true,true,true,false,false,false,false]) (by kernel_rfl) ?_
    revert aa
    revert ae
    revert bE
    revert aX
    revert aD
    revert p2
    revert p1
    revert w7
    exact kr.out
  ·skip
   intro K hK
   go_simp
   go_wp2_with (go_at_call 76;refine Calls.mono (P:=Tryz.prog) (q28 w5 b2 ya yb dw (j3.out.G hby hS5)) ?_;rintro e w6 ⟨rfl,hg⟩)
   refine hK.out _ _ (Or.inr (G.trans hS5 hg)) ?_
   clear hK K
   have aI:=G.trans hS5 hg
   clear hg
   refine q0m (i:=0) (j:=1) (l:=8) (by kernel_rfl) rfl rfl rfl ?_ ?_ ?_
   ·skip
    intro K hK
    go_simp
    refine hK.out _ _ (Or.inr (aI.alloc _)) ?_
    clear hK K
    have hn:=NI.new aI 83
    have hal:=(G.refl w6).alloc (.cells #[.bool false,.slice none 0 0] 83)
    have aD:=G.trans aI hal
    generalize w6.heap.size=p0 at *
    generalize w6.alloc (.cells #[.bool false,.slice none 0 0] 83)=w7 at *
    have cO:=hid hn
    clear hn hal aI
    refine q00 (l':=#[true,false,true,true,true,true,true,false,false,true,true,true,true,false,false,false,false]) (by kernel_rfl) ?_
    revert cO
    revert aD
    revert p0
    revert w7
    exact sF.out
   ·skip
    intro K hK
    go_simp
    refine hK.out _ _ (Or.inr (aI.alloc _)) ?_
    clear hK K
    have hn:=NI.new aI 83
    have hal:=(G.refl w6).alloc (.cells #[.bool false,.slice none 0 0] 83)
    have aD:=G.trans aI hal
    generalize w6.heap.size=p1 at *
    generalize w6.alloc (.cells #[.bool false,.slice none 0 0] 83)=w7 at *
    have aX:=hid hn
    clear hn hal aI
    refine q00 (l':=#[false,true,true,true,true,true,true,false,false,true,true,true,true,false,false,false,false]) (by kernel_rfl) ?_
    revert aX
    revert aD
    revert p1
    revert w7
    exact nE.out
   ·skip
    intro K hK
    go_simp
    refine hK.out _ _ (Or.inr (aI.alloc _)) ?_
    clear hK K
    have hn:=NI.new aI 83
    have hal:=(G.refl w6).alloc (.cells #[.bool false,.slice none 0 0] 83)
    have aD:=G.trans aI hal
    generalize w6.heap.size=p2 at *
    generalize w6.alloc (.cells #[.bool false,.slice none 0 0] 83)=w7 at *
    have bE:=hid hn
    clear hn hal aI
    refine q00 (l':=#[false,false,true,true,true,true,true,false,true,true,true,true,true,false,false,false,false]) (by kernel_rfl) ?_
    revert bE
    revert aD
    revert p2
    revert w7
    exact nG.out
  ·skip
   intro K hK
   go_simp
   refine hK.out _ _ (Or.inr (hS5.alloc _)) ?_
   clear hK K
   have hn:=NI.new hS5 83
   have hal:=(G.refl w5).alloc (.cells #[.bool false,.slice none 0 0] 83)
   have aI:=G.trans hS5 hal
   generalize w5.heap.size=p2 at *
   generalize w5.alloc (.cells #[.bool false,.slice none 0 0] 83)=w6 at *
   have j5:=hid hn
   clear hn hal
   refine q0m (i:=0) (j:=1) (l:=6) (by kernel_rfl) rfl rfl rfl ?_ ?_ ?_
   ·skip
    intro K hK
    go_simp
    refine hK.out _ _ (Or.inr (aI.alloc _)) ?_
    clear hK K
    have hn:=NI.new aI 83
    have hal:=(G.refl w6).alloc (.cells #[.bool false,.slice none 0 0] 83)
    have aD:=G.trans aI hal
    have bE:=hid (j5.out.G hal)
    have av:w6.heap.size≠p2:=by have:=j5.out.2.1;omega
    generalize w6.heap.size=p0 at *
    generalize w6.alloc (.cells #[.bool false,.slice none 0 0] 83)=w7 at *
    have cO:=hid hn
    have ak:Hid (p2≠p0):=av.symm
    have aj:Hid (p0≠p2):=av
    clear hn hal aI j5 av
    refine q00 (l':=#[true,false,true,true,true,true,false,false,true,true,true,true,true,false,false,false,false]) (by kernel_rfl) ?_
    revert ak
    revert aj
    revert bE
    revert cO
    revert aD
    revert p2
    revert p0
    revert w7
    exact sD.out
   ·skip
    intro K hK
    go_simp
    refine hK.out _ _ (Or.inr (aI.alloc _)) ?_
    clear hK K
    have hn:=NI.new aI 83
    have hal:=(G.refl w6).alloc (.cells #[.bool false,.slice none 0 0] 83)
    have aD:=G.trans aI hal
    have bE:=hid (j5.out.G hal)
    have av:w6.heap.size≠p2:=by have:=j5.out.2.1;omega
    generalize w6.heap.size=p1 at *
    generalize w6.alloc (.cells #[.bool false,.slice none 0 0] 83)=w7 at *
    have aX:=hid hn
    have ae:Hid (p2≠p1):=av.symm
    have aa:Hid (p1≠p2):=av
    clear hn hal aI j5 av
    refine q00 (l':=#[false,true,true,true,true,true,false,false,true,true,true,true,true,false,false,false,false]) (by kernel_rfl) ?_
    revert aa
    revert ae
    revert bE
    revert aX
    revert aD
    revert p2
    revert p1
    revert w7
    exact kr.out
   ·skip
    intro K hK
    go_simp
    go_wp2_with (go_at_call 76;refine Calls.mono (P:=Tryz.prog) (q28 w6 b2 ya yb dw (j3.out.G hby aI)) ?_;rintro e w7 ⟨rfl,hg⟩)
    refine hK.out _ _ (Or.inr (G.trans aI hg)) ?_
    clear hK K
    have aD:=G.trans aI hg
    have bE:=hid (j5.out.G hg)
    clear hg aI j5
    refine q00 (l':=#[false,false,true,true,true,true,true,false,true,true,true,true,true,false,false,false,false]) (by kernel_rfl) ?_
    revert bE
    revert aD
    revert p2
    revert w7
    exact nG.out
  refine Later.mk ?_
  intro w7 p2 aD bE
  refine q08 (i:=0) (j:=1) (by kernel_rfl) rfl rfl ?_ ?_
  ·skip
   intro K hK
   go_simp
   refine hK.out _ _ (Or.inr (aD.alloc _)) ?_
   clear hK K
   have hn:=NI.new aD 83
   have hal:=(G.refl w7).alloc (.cells #[.bool false,.slice none 0 0] 83)
   have aG:=G.trans aD hal
   have bQ:=hid (bE.out.G hal)
   have av:w7.heap.size≠p2:=by have:=bE.out.2.1;omega
   generalize w7.heap.size=p0 at *
   generalize w7.alloc (.cells #[.bool false,.slice none 0 0] 83)=w8 at *
   have df:=hid hn
   have ak:Hid (p2≠p0):=av.symm
   have aj:Hid (p0≠p2):=av
   clear hn hal aD bE av
   refine q00 (l':=#[true,false,true,true,true,true,true,false,true,true,true,true,true,false,false,false,false]) (by kernel_rfl) ?_
   revert ak
   revert aj
   revert bQ
   revert df
   revert aG
   revert p2
   revert p0
   revert w8
   exact ko.out
  ·skip
   intro K hK
   go_simp
   refine hK.out _ _ (Or.inr (aD.alloc _)) ?_
   clear hK K
   have hn:=NI.new aD 83
   have hal:=(G.refl w7).alloc (.cells #[.bool false,.slice none 0 0] 83)
   have aG:=G.trans aD hal
   have bQ:=hid (bE.out.G hal)
   have av:w7.heap.size≠p2:=by have:=bE.out.2.1;omega
   generalize w7.heap.size=p1 at *
   generalize w7.alloc (.cells #[.bool false,.slice none 0 0] 83)=w8 at *
   have aT:=hid hn
   have ae:Hid (p2≠p1):=av.symm
   have aa:Hid (p1≠p2):=av
   clear hn hal aD bE av
   refine q00 (l':=#[false,true,true,true,true,true,true,false,true,true,true,true,true,false,false,false,false]) (by kernel_rfl) ?_
   revert aa
   revert ae
   revert bQ
   revert aT
   revert aG
   revert p2
   revert p1
   revert w8
   exact fZ.out
  refine Later.mk ?_
  intro w7 p1 aD aX
  refine q0m (i:=0) (j:=7) (l:=8) (by kernel_rfl) rfl rfl rfl ?_ ?_ ?_
  ·skip
   intro K hK
   go_simp
   refine hK.out _ _ (Or.inr (aD.alloc _)) ?_
   clear hK K
   have hn:=NI.new aD 83
   have hal:=(G.refl w7).alloc (.cells #[.bool false,.slice none 0 0] 83)
   have aG:=G.trans aD hal
   have aT:=hid (aX.out.G hal)
   have af:w7.heap.size≠p1:=by have:=aX.out.2.1;omega
   generalize w7.heap.size=p0 at *
   generalize w7.alloc (.cells #[.bool false,.slice none 0 0] 83)=w8 at *
   have df:=hid hn
   have ai:Hid (p1≠p0):=af.symm
   have ag:Hid (p0≠p1):=af
   clear hn hal aD aX af
   refine q00 (l':=#[true,true,true,true,true,true,true,false,false,true,true,true,true,false,false,false,false]) (by kernel_rfl) ?_
   revert ai
   revert ag
   revert aT
   revert df
   revert aG
   revert p1
   revert p0
   revert w8
   exact kg.out
  ·skip
   intro K hK
   go_simp
   have dA:Hid _:=q0R w7 p1 0 bx 0 b2 2 0 xa yb KB (by omega) gI.out fV.out aX.out.2.1 (G.lt aD hbx) (G.lt aD hby) aX.out.2.2 (IntIs.G HX0.out hbx aD) (IntIs.G EE.out hby aD)
   go_wp2_with (go_at_call 78;refine Calls.mono (P:=Tryz.prog) dA.out ?_;intro e w8 hx;obtain⟨rfl,aG,hl,-,hkp⟩:=SetTo.step aD aX.out hx)
   have aT:=hid hl
   refine hK.out _ _ (Or.inr aG) ?_
   clear hK K hx hl hkp dA aD aX
   refine q0m (i:=0) (j:=8) (l:=13) (by kernel_rfl) rfl rfl rfl ?_ ?_ ?_
   ·skip
    intro K hK
    go_simp
    refine hK.out _ _ (Or.inr (aG.alloc _)) ?_
    clear hK K
    have hn:=NI.new aG 83
    have hal:=(G.refl w8).alloc (.cells #[.bool false,.slice none 0 0] 83)
    have aJ:=G.trans aG hal
    have aY:=hid (aT.out.G hal)
    have af:w8.heap.size≠p1:=by have:=aT.out.2.1;omega
    generalize w8.heap.size=p0 at *
    generalize w8.alloc (.cells #[.bool false,.slice none 0 0] 83)=w9 at *
    have dX:=hid hn
    have ai:Hid (p1≠p0):=af.symm
    have ag:Hid (p0≠p1):=af
    clear hn hal aG aT af
    refine q00 (l':=#[true,true,true,true,true,true,true,true,false,true,true,true,true,false,false,false,false]) (by kernel_rfl) ?_
    revert ai
    revert ag
    revert aY
    revert dX
    revert aJ
    revert p1
    revert p0
    revert w9
    exact jY.out
   ·skip
    intro K hK
    go_simp
    refine hK.out _ _ (Or.inr (aG.alloc _)) ?_
    clear hK K
    have hn:=NI.new aG 83
    have hal:=(G.refl w8).alloc (.cells #[.bool false,.slice none 0 0] 83)
    have aJ:=G.trans aG hal
    have aY:=hid (aT.out.G hal)
    have af:w8.heap.size≠p1:=by have:=aT.out.2.1;omega
    generalize w8.heap.size=p2 at *
    generalize w8.alloc (.cells #[.bool false,.slice none 0 0] 83)=w9 at *
    have dC:=hid hn
    have aa:Hid (p1≠p2):=af.symm
    have ae:Hid (p2≠p1):=af
    clear hn hal aG aT af
    refine q00 (l':=#[false,true,true,true,true,true,true,true,true,true,true,true,true,false,false,false,false]) (by kernel_rfl) ?_
    revert aa
    revert ae
    revert dC
    revert aY
    revert aJ
    revert p2
    revert p1
    revert w9
    exact dV.out
   ·skip
    intro K hK
    go_simp
    go_wp2_with (go_at_call 76;refine Calls.mono (P:=Tryz.prog) (q28 w8 bx xa xb fe (lZ.out.G hbx aG)) ?_;rintro e w9 ⟨rfl,hg⟩)
    refine hK.out _ _ (Or.inr (G.trans aG hg)) ?_
    clear hK K
    have aJ:=G.trans aG hg
    have aY:=hid (aT.out.G hg)
    clear hg aG aT
    refine q08 (i:=0) (j:=8) (by kernel_rfl) rfl rfl ?_ ?_
    ·skip
     intro K hK
     go_simp
     refine hK.out _ _ (Or.inr (aJ.alloc _)) ?_
     clear hK K
     have hn:=NI.new aJ 83
     have hal:=(G.refl w9).alloc (.cells #[.bool false,.slice none 0 0] 83)
     have aF:=G.trans aJ hal
     have aO:=hid (aY.out.G hal)
     have af:w9.heap.size≠p1:=by have:=aY.out.2.1;omega
     generalize w9.heap.size=p0 at *
     generalize w9.alloc (.cells #[.bool false,.slice none 0 0] 83)=aS at *
     have bY:=hid hn
     have ai:Hid (p1≠p0):=af.symm
     have ag:Hid (p0≠p1):=af
     clear hn hal aJ aY af
     refine q00 (l':=#[true,true,true,true,true,true,true,true,false,true,true,true,true,true,false,false,false]) (by kernel_rfl) ?_
     revert ai
     revert ag
     revert aO
     revert bY
     revert aF
     revert p1
     revert p0
     revert aS
     exact iH.out
    ·skip
     intro K hK
     go_simp
     refine hK.out _ _ (Or.inr (aJ.alloc _)) ?_
     clear hK K
     have hn:=NI.new aJ 83
     have hal:=(G.refl w9).alloc (.cells #[.bool false,.slice none 0 0] 83)
     have aF:=G.trans aJ hal
     have aO:=hid (aY.out.G hal)
     have af:w9.heap.size≠p1:=by have:=aY.out.2.1;omega
     generalize w9.heap.size=p2 at *
     generalize w9.alloc (.cells #[.bool false,.slice none 0 0] 83)=aS at *
     have aV:=hid hn
     have aa:Hid (p1≠p2):=af.symm
     have ae:Hid (p2≠p1):=af
     clear hn hal aJ aY af
     refine q00 (l':=#[false,true,true,true,true,true,true,true,true,true,true,true,true,true,false,false,false]) (by kernel_rfl) ?_
     revert aa
     revert ae
     revert aV
     revert aO
     revert aF
     revert p2
     revert p1
     revert aS
     exact dz.out
  ·skip
   intro K hK
   go_simp
   refine hK.out _ _ (Or.inr (aD.alloc _)) ?_
   clear hK K
   have hn:=NI.new aD 83
   have hal:=(G.refl w7).alloc (.cells #[.bool false,.slice none 0 0] 83)
   have aG:=G.trans aD hal
   have aT:=hid (aX.out.G hal)
   have af:w7.heap.size≠p1:=by have:=aX.out.2.1;omega
   generalize w7.heap.size=p2 at *
   generalize w7.alloc (.cells #[.bool false,.slice none 0 0] 83)=w8 at *
   have bQ:=hid hn
   have aa:Hid (p1≠p2):=af.symm
   have ae:Hid (p2≠p1):=af
   clear hn hal aD aX af
   refine q00 (l':=#[false,true,true,true,true,true,true,false,true,true,true,true,true,false,false,false,false]) (by kernel_rfl) ?_
   revert aa
   revert ae
   revert bQ
   revert aT
   revert aG
   revert p2
   revert p1
   revert w8
   exact fZ.out
  refine Later.mk ?_
  intro w7 p1 p2 aD aX bE ae aa
  refine q08 (i:=0) (j:=6) (by kernel_rfl) rfl rfl ?_ ?_
  ·skip
   intro K hK
   go_simp
   refine hK.out _ _ (Or.inr (aD.alloc _)) ?_
   clear hK K
   have hn:=NI.new aD 83
   have hal:=(G.refl w7).alloc (.cells #[.bool false,.slice none 0 0] 83)
   have aG:=G.trans aD hal
   have aT:=hid (aX.out.G hal)
   have bQ:=hid (bE.out.G hal)
   have af:w7.heap.size≠p1:=by have:=aX.out.2.1;omega
   have av:w7.heap.size≠p2:=by have:=bE.out.2.1;omega
   generalize w7.heap.size=p0 at *
   generalize w7.alloc (.cells #[.bool false,.slice none 0 0] 83)=w8 at *
   have df:=hid hn
   have ai:Hid (p1≠p0):=af.symm
   have ag:Hid (p0≠p1):=af
   have ak:Hid (p2≠p0):=av.symm
   have aj:Hid (p0≠p2):=av
   clear hn hal aD aX bE af av
   refine q00 (l':=#[true,true,true,true,true,true,false,false,true,true,true,true,true,false,false,false,false]) (by kernel_rfl) ?_
   revert ak
   revert ai
   revert aa
   revert aj
   revert ae
   revert ag
   revert bQ
   revert aT
   revert df
   revert aG
   revert p2
   revert p1
   revert p0
   revert w8
   exact jZ.out
  ·skip
   intro K hK
   go_simp
   go_wp2_with (go_at_call 76;refine Calls.mono (P:=Tryz.prog) (q28 w7 b2 ya yb dw (j3.out.G hby aD)) ?_;rintro e w8 ⟨rfl,hg⟩)
   refine hK.out _ _ (Or.inr (G.trans aD hg)) ?_
   clear hK K
   have aG:=G.trans aD hg
   have aT:=hid (aX.out.G hg)
   have bQ:=hid (bE.out.G hg)
   clear hg aD aX bE
   refine q00 (l':=#[false,true,true,true,true,true,true,false,true,true,true,true,true,false,false,false,false]) (by kernel_rfl) ?_
   revert aa
   revert ae
   revert bQ
   revert aT
   revert aG
   revert p2
   revert p1
   revert w8
   exact fZ.out
  refine Later.mk ?_
  intro w7 p0 aD cO
  refine q08 (i:=1) (j:=8) (by kernel_rfl) rfl rfl ?_ ?_
  ·skip
   intro K hK
   go_simp
   refine hK.out _ _ (Or.inr (aD.alloc _)) ?_
   clear hK K
   have hn:=NI.new aD 83
   have hal:=(G.refl w7).alloc (.cells #[.bool false,.slice none 0 0] 83)
   have aG:=G.trans aD hal
   have df:=hid (cO.out.G hal)
   have aA:w7.heap.size≠p0:=by have:=cO.out.2.1;omega
   generalize w7.heap.size=p1 at *
   generalize w7.alloc (.cells #[.bool false,.slice none 0 0] 83)=w8 at *
   have aT:=hid hn
   have ag:Hid (p0≠p1):=aA.symm
   have ai:Hid (p1≠p0):=aA
   clear hn hal aD cO aA
   refine q00 (l':=#[true,true,true,true,true,true,true,false,false,true,true,true,true,false,false,false,false]) (by kernel_rfl) ?_
   revert ai
   revert ag
   revert aT
   revert df
   revert aG
   revert p1
   revert p0
   revert w8
   exact kg.out
  ·skip
   intro K hK
   go_simp
   refine hK.out _ _ (Or.inr (aD.alloc _)) ?_
   clear hK K
   have hn:=NI.new aD 83
   have hal:=(G.refl w7).alloc (.cells #[.bool false,.slice none 0 0] 83)
   have aG:=G.trans aD hal
   have df:=hid (cO.out.G hal)
   have aA:w7.heap.size≠p0:=by have:=cO.out.2.1;omega
   generalize w7.heap.size=p2 at *
   generalize w7.alloc (.cells #[.bool false,.slice none 0 0] 83)=w8 at *
   have bQ:=hid hn
   have aj:Hid (p0≠p2):=aA.symm
   have ak:Hid (p2≠p0):=aA
   clear hn hal aD cO aA
   refine q00 (l':=#[true,false,true,true,true,true,true,false,true,true,true,true,true,false,false,false,false]) (by kernel_rfl) ?_
   revert ak
   revert aj
   revert bQ
   revert df
   revert aG
   revert p2
   revert p0
   revert w8
   exact ko.out
  refine Later.mk ?_
  intro w7 p0 p2 aD cO bE aj ak
  refine q08 (i:=1) (j:=6) (by kernel_rfl) rfl rfl ?_ ?_
  ·skip
   intro K hK
   go_simp
   refine hK.out _ _ (Or.inr (aD.alloc _)) ?_
   clear hK K
   have hn:=NI.new aD 83
   have hal:=(G.refl w7).alloc (.cells #[.bool false,.slice none 0 0] 83)
   have aG:=G.trans aD hal
   have df:=hid (cO.out.G hal)
   have bQ:=hid (bE.out.G hal)
   have aA:w7.heap.size≠p0:=by have:=cO.out.2.1;omega
   have av:w7.heap.size≠p2:=by have:=bE.out.2.1;omega
   generalize w7.heap.size=p1 at *
   generalize w7.alloc (.cells #[.bool false,.slice none 0 0] 83)=w8 at *
   have aT:=hid hn
   have ag:Hid (p0≠p1):=aA.symm
   have ai:Hid (p1≠p0):=aA
   have ae:Hid (p2≠p1):=av.symm
   have aa:Hid (p1≠p2):=av
   clear hn hal aD cO bE aA av
   refine q00 (l':=#[true,true,true,true,true,true,false,false,true,true,true,true,true,false,false,false,false]) (by kernel_rfl) ?_
   revert ak
   revert ai
   revert aa
   revert aj
   revert ae
   revert ag
   revert bQ
   revert aT
   revert df
   revert aG
   revert p2
   revert p1
   revert p0
   revert w8
   exact jZ.out
  ·skip
   intro K hK
   go_simp
   go_wp2_with (go_at_call 76;refine Calls.mono (P:=Tryz.prog) (q28 w7 b2 ya yb dw (j3.out.G hby aD)) ?_;rintro e w8 ⟨rfl,hg⟩)
   refine hK.out _ _ (Or.inr (G.trans aD hg)) ?_
   clear hK K
   have aG:=G.trans aD hg
   have df:=hid (cO.out.G hg)
   have bQ:=hid (bE.out.G hg)
   clear hg aD cO bE
   refine q00 (l':=#[true,false,true,true,true,true,true,false,true,true,true,true,true,false,false,false,false]) (by kernel_rfl) ?_
   revert ak
   revert aj
   revert bQ
   revert df
   revert aG
   revert p2
   revert p0
   revert w8
   exact ko.out
  refine Later.mk ?_
  intro w7 p0 p1 aD cO aX ag ai
  refine q08 (i:=6) (j:=8) (by kernel_rfl) rfl rfl ?_ ?_
  ·skip
   intro K hK
   go_simp
   go_wp2_with (go_at_call 76;refine Calls.mono (P:=Tryz.prog) (q28 w7 b2 ya yb dw (j3.out.G hby aD)) ?_;rintro e w8 ⟨rfl,hg⟩)
   refine hK.out _ _ (Or.inr (G.trans aD hg)) ?_
   clear hK K
   have aG:=G.trans aD hg
   have df:=hid (cO.out.G hg)
   have aT:=hid (aX.out.G hg)
   clear hg aD cO aX
   refine q00 (l':=#[true,true,true,true,true,true,true,false,false,true,true,true,true,false,false,false,false]) (by kernel_rfl) ?_
   revert ai
   revert ag
   revert aT
   revert df
   revert aG
   revert p1
   revert p0
   revert w8
   exact kg.out
  ·skip
   intro K hK
   go_simp
   refine hK.out _ _ (Or.inr (aD.alloc _)) ?_
   clear hK K
   have hn:=NI.new aD 83
   have hal:=(G.refl w7).alloc (.cells #[.bool false,.slice none 0 0] 83)
   have aG:=G.trans aD hal
   have df:=hid (cO.out.G hal)
   have aT:=hid (aX.out.G hal)
   have aA:w7.heap.size≠p0:=by have:=cO.out.2.1;omega
   have af:w7.heap.size≠p1:=by have:=aX.out.2.1;omega
   generalize w7.heap.size=p2 at *
   generalize w7.alloc (.cells #[.bool false,.slice none 0 0] 83)=w8 at *
   have bQ:=hid hn
   have aj:Hid (p0≠p2):=aA.symm
   have ak:Hid (p2≠p0):=aA
   have aa:Hid (p1≠p2):=af.symm
   have ae:Hid (p2≠p1):=af
   clear hn hal aD cO aX aA af
   refine q00 (l':=#[true,true,true,true,true,true,false,false,true,true,true,true,true,false,false,false,false]) (by kernel_rfl) ?_
   revert ak
   revert ai
   revert aa
   revert aj
   revert ae
   revert ag
   revert bQ
   revert aT
   revert df
   revert aG
   revert p2
   revert p1
   revert p0
   revert w8
   exact jZ.out
  refine Later.mk ?_
  intro w8 p1 p2 aG aT bQ ae aa
  refine q08 (i:=0) (j:=7) (by kernel_rfl) rfl rfl ?_ ?_
  ·skip
   intro K hK
   go_simp
   refine hK.out _ _ (Or.inr (aG.alloc _)) ?_
   clear hK K
   have hn:=NI.new aG 83
   have hal:=(G.refl w8).alloc (.cells #[.bool false,.slice none 0 0] 83)
   have aJ:=G.trans aG hal
   have aY:=hid (aT.out.G hal)
   have dC:=hid (bQ.out.G hal)
   have af:w8.heap.size≠p1:=by have:=aT.out.2.1;omega
   have av:w8.heap.size≠p2:=by have:=bQ.out.2.1;omega
   generalize w8.heap.size=p0 at *
   generalize w8.alloc (.cells #[.bool false,.slice none 0 0] 83)=w9 at *
   have dX:=hid hn
   have ai:Hid (p1≠p0):=af.symm
   have ag:Hid (p0≠p1):=af
   have ak:Hid (p2≠p0):=av.symm
   have aj:Hid (p0≠p2):=av
   clear hn hal aG aT bQ af av
   refine q00 (l':=#[true,true,true,true,true,true,true,false,true,true,true,true,true,false,false,false,false]) (by kernel_rfl) ?_
   revert ak
   revert ai
   revert aa
   revert aj
   revert ae
   revert ag
   revert dC
   revert aY
   revert dX
   revert aJ
   revert p2
   revert p1
   revert p0
   revert w9
   exact fq.out
  ·skip
   intro K hK
   go_simp
   have dA:Hid _:=q0R w8 p1 0 bx 0 b2 2 0 xa yb KB (by omega) gI.out fV.out aT.out.2.1 (G.lt aG hbx) (G.lt aG hby) aT.out.2.2 (IntIs.G HX0.out hbx aG) (IntIs.G EE.out hby aG)
   go_wp2_with (go_at_call 78;refine Calls.mono (P:=Tryz.prog) dA.out ?_;intro e w9 hx;obtain⟨rfl,aJ,hl,-,hkp⟩:=SetTo.step aG aT.out hx)
   have aY:=hid hl
   have dC:=hid (hkp _ _ ae.out bQ.out)
   refine hK.out _ _ (Or.inr aJ) ?_
   clear hK K hx hl hkp dA aG aT bQ
   refine q00 (l':=#[false,true,true,true,true,true,true,true,true,true,true,true,true,false,false,false,false]) (by kernel_rfl) ?_
   revert aa
   revert ae
   revert dC
   revert aY
   revert aJ
   revert p2
   revert p1
   revert w9
   exact dV.out
  refine Later.mk ?_
  intro w8 p0 p2 aG df bQ aj ak
  refine q03 (i:=1) (by kernel_rfl) rfl ?_
  intro K hK
  go_simp
  refine hK.out _ _ (Or.inr (aG.alloc _)) ?_
  clear hK K
  have hn:=NI.new aG 83
  have hal:=(G.refl w8).alloc (.cells #[.bool false,.slice none 0 0] 83)
  have aJ:=G.trans aG hal
  have dX:=hid (df.out.G hal)
  have dC:=hid (bQ.out.G hal)
  have aA:w8.heap.size≠p0:=by have:=df.out.2.1;omega
  have av:w8.heap.size≠p2:=by have:=bQ.out.2.1;omega
  generalize w8.heap.size=p1 at *
  generalize w8.alloc (.cells #[.bool false,.slice none 0 0] 83)=w9 at *
  have aY:=hid hn
  have ag:Hid (p0≠p1):=aA.symm
  have ai:Hid (p1≠p0):=aA
  have ae:Hid (p2≠p1):=av.symm
  have aa:Hid (p1≠p2):=av
  clear hn hal aG df bQ aA av
  refine q00 (l':=#[true,true,true,true,true,true,true,false,true,true,true,true,true,false,false,false,false]) (by kernel_rfl) ?_
  revert ak
  revert ai
  revert aa
  revert aj
  revert ae
  revert ag
  revert dC
  revert aY
  revert dX
  revert aJ
  revert p2
  revert p1
  revert p0
  revert w9
  exact fq.out
  refine Later.mk ?_
  intro w8 p0 p1 aG df aT ag ai
  refine q08 (i:=7) (j:=8) (by kernel_rfl) rfl rfl ?_ ?_
  ·skip
   intro K hK
   go_simp
   have dA:Hid _:=q0R w8 p1 0 bx 0 b2 2 0 xa yb KB (by omega) gI.out fV.out aT.out.2.1 (G.lt aG hbx) (G.lt aG hby) aT.out.2.2 (IntIs.G HX0.out hbx aG) (IntIs.G EE.out hby aG)
   go_wp2_with (go_at_call 78;refine Calls.mono (P:=Tryz.prog) dA.out ?_;intro e w9 hx;obtain⟨rfl,aJ,hl,-,hkp⟩:=SetTo.step aG aT.out hx)
   have aY:=hid hl
   have dX:=hid (hkp _ _ ag.out df.out)
   refine hK.out _ _ (Or.inr aJ) ?_
   clear hK K hx hl hkp dA aG df aT
   refine q00 (l':=#[true,true,true,true,true,true,true,true,false,true,true,true,true,false,false,false,false]) (by kernel_rfl) ?_
   revert ai
   revert ag
   revert aY
   revert dX
   revert aJ
   revert p1
   revert p0
   revert w9
   exact jY.out
  ·skip
   intro K hK
   go_simp
   refine hK.out _ _ (Or.inr (aG.alloc _)) ?_
   clear hK K
   have hn:=NI.new aG 83
   have hal:=(G.refl w8).alloc (.cells #[.bool false,.slice none 0 0] 83)
   have aJ:=G.trans aG hal
   have dX:=hid (df.out.G hal)
   have aY:=hid (aT.out.G hal)
   have aA:w8.heap.size≠p0:=by have:=df.out.2.1;omega
   have af:w8.heap.size≠p1:=by have:=aT.out.2.1;omega
   generalize w8.heap.size=p2 at *
   generalize w8.alloc (.cells #[.bool false,.slice none 0 0] 83)=w9 at *
   have dC:=hid hn
   have aj:Hid (p0≠p2):=aA.symm
   have ak:Hid (p2≠p0):=aA
   have aa:Hid (p1≠p2):=af.symm
   have ae:Hid (p2≠p1):=af
   clear hn hal aG df aT aA af
   refine q00 (l':=#[true,true,true,true,true,true,true,false,true,true,true,true,true,false,false,false,false]) (by kernel_rfl) ?_
   revert ak
   revert ai
   revert aa
   revert aj
   revert ae
   revert ag
   revert dC
   revert aY
   revert dX
   revert aJ
   revert p2
   revert p1
   revert p0
   revert w9
   exact fq.out
  refine Later.mk ?_
  intro w8 p0 p1 p2 aG df aT bQ ag ae aj aa ai ak
  refine q03 (i:=6) (by kernel_rfl) rfl ?_
  intro K hK
  go_simp
  go_wp2_with (go_at_call 76;refine Calls.mono (P:=Tryz.prog) (q28 w8 b2 ya yb dw (j3.out.G hby aG)) ?_;rintro e w9 ⟨rfl,hg⟩)
  refine hK.out _ _ (Or.inr (G.trans aG hg)) ?_
  clear hK K
  have aJ:=G.trans aG hg
  have dX:=hid (df.out.G hg)
  have aY:=hid (aT.out.G hg)
  have dC:=hid (bQ.out.G hg)
  clear hg aG df aT bQ
  refine q00 (l':=#[true,true,true,true,true,true,true,false,true,true,true,true,true,false,false,false,false]) (by kernel_rfl) ?_
  revert ak
  revert ai
  revert aa
  revert aj
  revert ae
  revert ag
  revert dC
  revert aY
  revert dX
  revert aJ
  revert p2
  revert p1
  revert p0
  revert w9
  exact fq.out
  refine Later.mk ?_
  intro w9 p1 p2 aJ aY dC ae aa
  refine q08 (i:=0) (j:=13) (by kernel_rfl) rfl rfl ?_ ?_
  ·skip
   intro K hK
   go_simp
   refine hK.out _ _ (Or.inr (aJ.alloc _)) ?_
   clear hK K
   have hn:=NI.new aJ 83
   have hal:=(G.refl w9).alloc (.cells #[.bool false,.slice none 0 0] 83)
   have aF:=G.trans aJ hal
   have aO:=hid (aY.out.G hal)
   have aV:=hid (dC.out.G hal)
   have af:w9.heap.size≠p1:=by have:=aY.out.2.1;omega
   have av:w9.heap.size≠p2:=by have:=dC.out.2.1;omega
   generalize w9.heap.size=p0 at *
   generalize w9.alloc (.cells #[.bool false,.slice none 0 0] 83)=aS at *
   have bY:=hid hn
   have ai:Hid (p1≠p0):=af.symm
   have ag:Hid (p0≠p1):=af
   have ak:Hid (p2≠p0):=av.symm
   have aj:Hid (p0≠p2):=av
   clear hn hal aJ aY dC af av
   refine q00 (l':=#[true,true,true,true,true,true,true,true,true,true,true,true,true,false,false,false,false]) (by kernel_rfl) ?_
   revert ak
   revert ai
   revert aa
   revert aj
   revert ae
   revert ag
   revert aV
   revert aO
   revert bY
   revert aF
   revert p2
   revert p1
   revert p0
   revert aS
   exact fo.out
  ·skip
   intro K hK
   go_simp
   go_wp2_with (go_at_call 76;refine Calls.mono (P:=Tryz.prog) (q28 w9 bx xa xb fe (lZ.out.G hbx aJ)) ?_;rintro e aS ⟨rfl,hg⟩)
   refine hK.out _ _ (Or.inr (G.trans aJ hg)) ?_
   clear hK K
   have aF:=G.trans aJ hg
   have aO:=hid (aY.out.G hg)
   have aV:=hid (dC.out.G hg)
   clear hg aJ aY dC
   refine q00 (l':=#[false,true,true,true,true,true,true,true,true,true,true,true,true,true,false,false,false]) (by kernel_rfl) ?_
   revert aa
   revert ae
   revert aV
   revert aO
   revert aF
   revert p2
   revert p1
   revert aS
   exact dz.out
  refine Later.mk ?_
  intro w9 p0 p1 aJ dX aY ag ai
  refine q08 (i:=8) (j:=13) (by kernel_rfl) rfl rfl ?_ ?_
  ·skip
   intro K hK
   go_simp
   refine hK.out _ _ (Or.inr (aJ.alloc _)) ?_
   clear hK K
   have hn:=NI.new aJ 83
   have hal:=(G.refl w9).alloc (.cells #[.bool false,.slice none 0 0] 83)
   have aF:=G.trans aJ hal
   have bY:=hid (dX.out.G hal)
   have aO:=hid (aY.out.G hal)
   have aA:w9.heap.size≠p0:=by have:=dX.out.2.1;omega
   have af:w9.heap.size≠p1:=by have:=aY.out.2.1;omega
   generalize w9.heap.size=p2 at *
   generalize w9.alloc (.cells #[.bool false,.slice none 0 0] 83)=aS at *
   have aV:=hid hn
   have aj:Hid (p0≠p2):=aA.symm
   have ak:Hid (p2≠p0):=aA
   have aa:Hid (p1≠p2):=af.symm
   have ae:Hid (p2≠p1):=af
   clear hn hal aJ dX aY aA af
   refine q00 (l':=#[true,true,true,true,true,true,true,true,true,true,true,true,true,false,false,false,false]) (by kernel_rfl) ?_
   revert ak
   revert ai
   revert aa
   revert aj
   revert ae
   revert ag
   revert aV
   revert aO
   revert bY
   revert aF
   revert p2
   revert p1
   revert p0
   revert aS
   exact fo.out
  ·skip
   intro K hK
   go_simp
   go_wp2_with (go_at_call 76;refine Calls.mono (P:=Tryz.prog) (q28 w9 bx xa xb fe (lZ.out.G hbx aJ)) ?_;rintro e aS ⟨rfl,hg⟩)
   refine hK.out _ _ (Or.inr (G.trans aJ hg)) ?_
   clear hK K
   have aF:=G.trans aJ hg
   have bY:=hid (dX.out.G hg)
   have aO:=hid (aY.out.G hg)
   clear hg aJ dX aY
   refine q00 (l':=#[true,true,true,true,true,true,true,true,false,true,true,true,true,true,false,false,false]) (by kernel_rfl) ?_
   revert ai
   revert ag
   revert aO
   revert bY
   revert aF
   revert p1
   revert p0
   revert aS
   exact iH.out
  refine Later.mk ?_
  intro w9 p0 p1 p2 aJ dX aY dC ag ae aj aa ai ak
  refine q03 (i:=7) (by kernel_rfl) rfl ?_
  intro K hK
  go_simp
  have dA:Hid _:=q0R w9 p1 0 bx 0 b2 2 0 xa yb KB (by omega) gI.out fV.out aY.out.2.1 (G.lt aJ hbx) (G.lt aJ hby) aY.out.2.2 (IntIs.G HX0.out hbx aJ) (IntIs.G EE.out hby aJ)
  go_wp2_with (go_at_call 78;refine Calls.mono (P:=Tryz.prog) dA.out ?_;intro e aS hx;obtain⟨rfl,aF,hl,-,hkp⟩:=SetTo.step aJ aY.out hx)
  have aO:=hid hl
  have bY:=hid (hkp _ _ ag.out dX.out)
  have aV:=hid (hkp _ _ ae.out dC.out)
  refine hK.out _ _ (Or.inr aF) ?_
  clear hK K hx hl hkp dA aJ dX aY dC
  refine q00 (l':=#[true,true,true,true,true,true,true,true,true,true,true,true,true,false,false,false,false]) (by kernel_rfl) ?_
  revert ak
  revert ai
  revert aa
  revert aj
  revert ae
  revert ag
  revert aV
  revert aO
  revert bY
  revert aF
  revert p2
  revert p1
  revert p0
  revert aS
  exact fo.out
  refine Later.mk ?_
  intro aS p1 p2 aF aO aV ae aa
  refine q08 (i:=0) (j:=14) (by kernel_rfl) rfl rfl ?_ ?_
  ·skip
   intro K hK
   go_simp
   refine hK.out _ _ (Or.inr (aF.alloc _)) ?_
   clear hK K
   have hn:=NI.new aF 83
   have hal:=(G.refl aS).alloc (.cells #[.bool false,.slice none 0 0] 83)
   have aW:=G.trans aF hal
   have dm:=hid (aO.out.G hal)
   have cu:=hid (aV.out.G hal)
   have af:aS.heap.size≠p1:=by have:=aO.out.2.1;omega
   have av:aS.heap.size≠p2:=by have:=aV.out.2.1;omega
   generalize aS.heap.size=p0 at *
   generalize aS.alloc (.cells #[.bool false,.slice none 0 0] 83)=dE at *
   have gp:=hid hn
   have ai:Hid (p1≠p0):=af.symm
   have ag:Hid (p0≠p1):=af
   have ak:Hid (p2≠p0):=av.symm
   have aj:Hid (p0≠p2):=av
   clear hn hal aF aO aV af av
   refine q00 (l':=#[true,true,true,true,true,true,true,true,true,true,true,true,true,true,false,false,false]) (by kernel_rfl) ?_
   revert ak
   revert ai
   revert aa
   revert aj
   revert ae
   revert ag
   revert cu
   revert dm
   revert gp
   revert aW
   revert p2
   revert p1
   revert p0
   revert dE
   exact dU.out
  ·skip
   intro K hK
   go_simp
   have dA:Hid _:=q0R aS p2 0 b2 0 bx 2 0 ya xb KB (by omega) jX.out jq.out aV.out.2.1 (G.lt aF hby) (G.lt aF hbx) aV.out.2.2 (IntIs.G qc.out hby aF) (IntIs.G Ec.out hbx aF)
   go_wp2_with (go_at_call 78;refine Calls.mono (P:=Tryz.prog) dA.out ?_;intro e dE hx;obtain⟨rfl,aW,hl,-,hkp⟩:=SetTo.step aF aV.out hx)
   have cu:=hid hl
   have dm:=hid (hkp _ _ aa.out aO.out)
   refine hK.out _ _ (Or.inr aW) ?_
   clear hK K hx hl hkp dA aF aO aV
   refine q03 (i:=0) (by kernel_rfl) rfl ?_
   intro K hK
   go_simp
   refine hK.out _ _ (Or.inr (aW.alloc _)) ?_
   clear hK K
   have hn:=NI.new aW 83
   have hal:=(G.refl dE).alloc (.cells #[.bool false,.slice none 0 0] 83)
   have fu:=G.trans aW hal
   have eF:=hid (dm.out.G hal)
   have eG:=hid (cu.out.G hal)
   have af:dE.heap.size≠p1:=by have:=dm.out.2.1;omega
   have av:dE.heap.size≠p2:=by have:=cu.out.2.1;omega
   generalize dE.heap.size=p0 at *
   generalize dE.alloc (.cells #[.bool false,.slice none 0 0] 83)=kv at *
   have gq:=hid hn
   have ai:Hid (p1≠p0):=af.symm
   have ag:Hid (p0≠p1):=af
   have ak:Hid (p2≠p0):=av.symm
   have aj:Hid (p0≠p2):=av
   clear hn hal aW dm cu af av
   refine q00 (l':=#[true,true,true,true,true,true,true,true,true,true,true,true,true,true,true,false,false]) (by kernel_rfl) ?_
   revert ak
   revert ai
   revert aa
   revert aj
   revert ae
   revert ag
   revert eG
   revert eF
   revert gq
   revert fu
   revert p2
   revert p1
   revert p0
   revert kv
   exact eD.out
  refine Later.mk ?_
  intro aS p0 p1 aF bY aO ag ai
  refine q03 (i:=8) (by kernel_rfl) rfl ?_
  intro K hK
  go_simp
  refine hK.out _ _ (Or.inr (aF.alloc _)) ?_
  clear hK K
  have hn:=NI.new aF 83
  have hal:=(G.refl aS).alloc (.cells #[.bool false,.slice none 0 0] 83)
  have aW:=G.trans aF hal
  have gp:=hid (bY.out.G hal)
  have dm:=hid (aO.out.G hal)
  have aA:aS.heap.size≠p0:=by have:=bY.out.2.1;omega
  have af:aS.heap.size≠p1:=by have:=aO.out.2.1;omega
  generalize aS.heap.size=p2 at *
  generalize aS.alloc (.cells #[.bool false,.slice none 0 0] 83)=dE at *
  have cu:=hid hn
  have aj:Hid (p0≠p2):=aA.symm
  have ak:Hid (p2≠p0):=aA
  have aa:Hid (p1≠p2):=af.symm
  have ae:Hid (p2≠p1):=af
  clear hn hal aF bY aO aA af
  refine q00 (l':=#[true,true,true,true,true,true,true,true,true,true,true,true,true,true,false,false,false]) (by kernel_rfl) ?_
  revert ak
  revert ai
  revert aa
  revert aj
  revert ae
  revert ag
  revert cu
  revert dm
  revert gp
  revert aW
  revert p2
  revert p1
  revert p0
  revert dE
  exact dU.out
  refine Later.mk ?_
  intro aS p0 p1 p2 aF bY aO aV ag ae aj aa ai ak
  refine q03 (i:=13) (by kernel_rfl) rfl ?_
  intro K hK
  go_simp
  go_wp2_with (go_at_call 76;refine Calls.mono (P:=Tryz.prog) (q28 aS bx xa xb fe (lZ.out.G hbx aF)) ?_;rintro e dE ⟨rfl,hg⟩)
  refine hK.out _ _ (Or.inr (G.trans aF hg)) ?_
  clear hK K
  have aW:=G.trans aF hg
  have gp:=hid (bY.out.G hg)
  have dm:=hid (aO.out.G hg)
  have cu:=hid (aV.out.G hg)
  clear hg aF bY aO aV
  refine q00 (l':=#[true,true,true,true,true,true,true,true,true,true,true,true,true,true,false,false,false]) (by kernel_rfl) ?_
  revert ak
  revert ai
  revert aa
  revert aj
  revert ae
  revert ag
  revert cu
  revert dm
  revert gp
  revert aW
  revert p2
  revert p1
  revert p0
  revert dE
  exact dU.out
  refine Later.mk ?_
  intro dE p0 p1 p2 aW gp dm cu ag ae aj aa ai ak
  refine q03 (i:=14) (by kernel_rfl) rfl ?_
  intro K hK
  go_simp
  have dA:Hid _:=q0R dE p2 0 b2 0 bx 2 0 ya xb KB (by omega) jX.out jq.out cu.out.2.1 (G.lt aW hby) (G.lt aW hbx) cu.out.2.2 (IntIs.G qc.out hby aW) (IntIs.G Ec.out hbx aW)
  go_wp2_with (go_at_call 78;refine Calls.mono (P:=Tryz.prog) dA.out ?_;intro e kv hx;obtain⟨rfl,fu,hl,-,hkp⟩:=SetTo.step aW cu.out hx)
  have eG:=hid hl
  have gq:=hid (hkp _ _ aj.out gp.out)
  have eF:=hid (hkp _ _ aa.out dm.out)
  refine hK.out _ _ (Or.inr fu) ?_
  clear hK K hx hl hkp dA aW gp dm cu
  refine q00 (l':=#[true,true,true,true,true,true,true,true,true,true,true,true,true,true,true,false,false]) (by kernel_rfl) ?_
  revert ak
  revert ai
  revert aa
  revert aj
  revert ae
  revert ag
  revert eG
  revert eF
  revert gq
  revert fu
  revert p2
  revert p1
  revert p0
  revert kv
  exact eD.out
  refine Later.mk ?_
  intro kv p0 p1 p2 fu gq eF eG ag ae aj aa ai ak
  refine q03 (i:=15) (by kernel_rfl) rfl ?_
  intro K hK
  go_simp
  have dA:Hid _:=qaS kv p0 0 p1 0 p2 0 0 (xa*(yb:Int)) (ya*(xb:Int)) (2*KB) (by omega) kY.out eH.out gq.out.2.1 eF.out.2.1 eG.out.2.1 gq.out.2.2 eF.out.2.2 eG.out.2.2
  go_wp2_with (go_at_call 135;refine Calls.mono (P:=Tryz.prog) dA.out ?_;intro e kz hx;obtain⟨rfl,mf,hl,-,hkp⟩:=SetTo.step fu gq.out hx)
  have mg:=hid hl
  have oM:=hid (hkp _ _ ai.out eF.out)
  have oN:=hid (hkp _ _ ak.out eG.out)
  refine hK.out _ _ (Or.inl (by decide)) ?_
  clear hK K hx hl hkp dA fu gq eF eG
  refine q03 (i:=16) (by kernel_rfl) rfl ?_
  intro K hK
  go_simp
  refine hK.out _ _ (Or.inl (by decide)) ?_
  clear hK K
  refine q0f (by kernel_rfl) ?_ _
  revert ak
  revert ai
  revert aa
  revert aj
  revert ae
  revert ag
  revert oN
  revert oM
  revert mg
  revert mf
  revert p2
  revert p1
  revert p0
  revert kz
  exact LX.out
 ·skip
  refine Later.mk ?_
  intro kz p0 p1 p2 mf mg oM oN ag ae aj aa ai ak
  clear ai ak ag ae aj aa
  have HS:=mg.out
  have hG:=mf
  clear mg oM oN mf
  have tY:Hid (NI w kz p0 (xa*(yb:Int)-ya*(xb:Int))):=HS
  clear HS
  go_wp2_with fail
  have hn0:=NI.new hG 83
  have hal:=(G.refl kz).alloc (.cells #[.bool false,.slice none 0 0] 83)
  have hG1:=G.trans hG hal
  have hs1:=tY.out.G hal
  have hne:p0≠kz.heap.size:=by have:=tY.out.2.1;omega
  generalize kz.heap.size=pd at *
  generalize kz.alloc (.cells #[.bool false,.slice none 0 0] 83)=v1 at *
  have jJ:Hid (NI w v1 pd 0):=hn0
  have mV:Hid (NI w v1 p0 (xa*(yb:Int)-ya*(xb:Int))):=hs1
  clear hn0 hal hs1 hG tY
  refine Calls.mono (P:=Tryz.prog) (q28 v1 bx xa xb fe (lZ.out.G hbx hG1)) ?_
  rintro e v2 ⟨rfl,hg2⟩
  have hG2:=G.trans hG1 hg2
  have jS:Hid (NI w v2 pd 0):=jJ.out.G hg2
  have HS2:Hid (NI w v2 p0 (xa*(yb:Int)-ya*(xb:Int))):=mV.out.G hg2
  clear hG1 hg2 jJ mV
  go_wp2_with fail
  refine Calls.mono (P:=Tryz.prog) (q28 v2 b2 ya yb dw (j3.out.G hby hG2)) ?_
  rintro e v3 ⟨rfl,hg3⟩
  have hG3:=G.trans hG2 hg3
  have vE:Hid (NI w v3 pd 0):=jS.out.G hg3
  have pY:Hid (NI w v3 p0 (xa*(yb:Int)-ya*(xb:Int))):=HS2.out.G hg3
  clear hG2 hg3 jS HS2
  have HM:Hid _:=q0R v3 pd 0 bx 2 b2 2 0 xb yb KB (by omega) jq.out fV.out vE.out.2.1 (G.lt hG3 hbx) (G.lt hG3 hby) vE.out.2.2 (IntIs.G Ec.out hbx hG3) (IntIs.G EE.out hby hG3)
  go_wp2_with fail
  refine Calls.mono (P:=Tryz.prog) HM.out ?_
  intro e v4 hs
  obtain⟨rfl,hG4,lY,-,hkp⟩:=SetTo.step hG3 vE.out hs
  have uB:Hid (NI w v4 p0 (xa*(yb:Int)-ya*(xb:Int))):=hkp p0 _ hne pY.out
  rw[show (xb:Int)*yb=((xb*yb:Nat):Int) from by push_cast;rfl] at lY
  have zS:Hid (NI w v4 pd ((xb*yb:Nat):Int)):=lY
  clear hs hkp lY HM vE pY hG3 hne
  have HF:Hid _:=q0V v4 bz p0 0 pd 0 s1 s2 (xa*(yb:Int)-ya*(xb:Int)) (xb*yb) (2*KB+1) (by omega) qj.out HD2.out HD0.out (G.lt hG4 hbz) uB.out.2.1 zS.out.2.1 (EF.out.G hbz hG4) uB.out.2.2 zS.out.2.2
  go_wp2_with fail
  refine Calls.mono (P:=Tryz.prog) HF.out ?_
  intro e v5 hs
  obtain⟨rfl,k1,k2⟩:=NormTo.after hG4 hs
  have kF:Hid _:=k2
  clear hs k2 HF uB zS
  go_wp2_with fail
  go_ret
  exact⟨rfl,k1,kF.out⟩
/-- den: of a new Rat it is a new 1. -/
theorem qaQ (w:World) (b:Nat) (xb:Nat) (hxb:xb=1) (h:RatIs w b 0 0):
  Calls Tryz.prog 76 #[.pointer (some ⟨b,0,none⟩)] w (RetI w (xb:Int)):=by
 obtain⟨-,n,v,a,⟨c1,c2,-,-⟩,⟨l,hl,hcl,hlv⟩,h1,-⟩:=h
 have ha:=q1E h1
 obtain⟨p,c,rfl,-,-⟩:=q0o hl
 have hl0:l.length=0:=by
  have h0:val l=0:=by rw[hlv];omega
  rw[(q14 hcl).1 h0]
  rfl
 rw[hl0] at c2
 have HN:Hid _:=q3e w (xb:Int) ⟨by omega,by omega⟩
 rw[hxb] at HN ⊢
 clear hl hcl hlv h1 ha hl0
 go_enter Tryz.func76,Tryz.ntmps76
 go_wp2_with fail
 refine Calls.mono (P:=Tryz.prog) HN.out ?_
 rintro e w2 ⟨p,rfl,k1,k2,k3,k4⟩
 have HK:Hid _:=k4
 clear k4 HN
 go_wp2_with fail
 go_ret
 exact⟨p,rfl,k1,k2,k3,HK.out⟩
/-- A Rat, laid or new (then it is 0). -/
def RatV (w:World) (b:Nat) (xa:Int) (xb:Nat):Prop:=RatIs w b xa (xb:Int)∨(xa=0∧xb=1∧RatIs w b 0 0)
theorem RatV.G {w w':World} {b:Nat} {xa:Int} {xb:Nat} (h:RatV w b xa xb) (hb:b<w.heap.size) (g:G w w'):RatV w' b xa xb:=by
 rcases h with h|⟨h1,h2,h⟩
 ·exact Or.inl (RatIs.G h hb g)
 ·exact Or.inr ⟨h1,h2,RatIs.G h hb g⟩
theorem RatV.num {w:World} {b:Nat} {xa:Int} {xb:Nat} (h:RatV w b xa xb):IntIs w b 0 xa:=by
 rcases h with h|⟨h1,-,h⟩
 ·exact h.1
 ·rw[h1];exact h.1
/-- A lower part: in the Rat itself, or new. -/
def DI (w0 w:World) (p o:Nat) (s:Int):Prop:=(p<w0.heap.size∧IntIs w0 p o s)∨(o=0∧NI w0 w p s)
theorem DI.G {w0 w w':World} {p o:Nat} {s:Int} (h:DI w0 w p o s) (g:Go.Proofs.YtdidnnbpdcanlaaGreatDoor.G w w'):DI w0 w' p o s:=by
 rcases h with h|⟨h1,h2⟩
 ·exact Or.inl h
 ·exact Or.inr ⟨h1,h2.G g⟩
theorem DI.is {w0 w:World} {p o:Nat} {s:Int} (h:DI w0 w p o s) (g:Go.Proofs.YtdidnnbpdcanlaaGreatDoor.G w0 w):p<w.heap.size∧IntIs w p o s:=by
 rcases h with ⟨h1,h2⟩|⟨rfl,h2⟩
 ·exact⟨G.lt g h1,IntIs.G h2 h1 g⟩
 ·exact h2.2
theorem DI.keep {w0 w w':World} {p o:Nat} {s:Int} (h:DI w0 w p o s) (k:NI w0 w p s→NI w0 w' p s):DI w0 w' p o s:=by
 rcases h with h|⟨h1,h2⟩
 ·exact Or.inl h
 ·exact Or.inr ⟨h1,k h2⟩
theorem q0F (w0 w:World) (g:G w0 w) (b:Nat) (xa:Int) (xb:Nat) (hxb:0<xb) (hb:b<w0.heap.size) (h:RatV w0 b xa xb):
  Calls Tryz.prog 76 #[.pointer (some ⟨b,0,none⟩)] w fun e w'=>∃ p o,e= .returned (.pointer (some ⟨p,o,none⟩))∧G w w'∧DI w0 w' p o (xb:Int)∧(p<w0.heap.size∨w.heap.size≤p):=by
 rcases h with h|⟨-,h2,h⟩
 ·refine Calls.mono (P:=Tryz.prog) (q28 w b xa xb (by omega) (h.G hb g)) ?_
  rintro e w' ⟨rfl,g'⟩
  exact⟨b,2,rfl,g',Or.inl ⟨hb,h.2⟩,Or.inl hb⟩
 ·refine Calls.mono (P:=Tryz.prog) (qaQ w b xb h2 (h.G hb g)) ?_
  rintro e w' ⟨p,rfl,g',k1,k2,k3⟩
  exact⟨p,0,rfl,g',Or.inr ⟨rfl,Nat.le_trans g.size k1,k2,k3⟩,Or.inr k1⟩
set_option maxRecDepth 10000 in
set_option maxHeartbeats 8000000 in
theorem qb7 (w:World) (bz bx b2:Nat) (s1 s2 xa ya:Int) (xb yb:Nat) (KB:Nat) (hK:KB≤100000) (hx2:xa.natAbs<2^(32*KB)) (hy2:ya.natAbs<2^(32*KB)) (eX:xb<2^(32*KB)) (fD:yb<2^(32*KB)) (hxb:0<xb) (hyb:0<yb)
  (hbz:bz<w.heap.size) (hbx:bx<w.heap.size) (hby:b2<w.heap.size) (hz:RatIs w bz s1 s2) (hx:RatV w bx xa xb) (hy:RatV w b2 ya yb):
  Calls Tryz.prog 58 #[.pointer (some ⟨bz,0,none⟩),.pointer (some ⟨bx,0,none⟩),.pointer (some ⟨b2,0,none⟩)] w (NormTo w bz (Int.tdiv (xa*(yb:Int)+ya*(xb:Int)) (Nat.gcd (xa*(yb:Int)+ya*(xb:Int)).natAbs (xb*yb):Nat)) (xb*yb/Nat.gcd (xa*(yb:Int)+ya*(xb:Int)).natAbs (xb*yb))):=by
 have gI:Hid (xa.natAbs<2^(32*KB)):=hx2
 have jX:Hid (ya.natAbs<2^(32*KB)):=hy2
 have jq:Hid ((xb:Int).natAbs<2^(32*KB)):=by show (xb:Int).natAbs<2^(32*KB);rw[Int.natAbs_natCast];exact eX
 have fV:Hid ((yb:Int).natAbs<2^(32*KB)):=by show (yb:Int).natAbs<2^(32*KB);rw[Int.natAbs_natCast];exact fD
 have HX0:Hid (IntIs w bx 0 xa):=hx.num
 have qc:Hid (IntIs w b2 0 ya):=hy.num
 have lZ:Hid (RatV w bx xa xb):=hx
 have j3:Hid (RatV w b2 ya yb):=hy
 have EF:Hid (RatIs w bz s1 s2):=hz
 have fe:0<xb:=hxb
 have dw:0<yb:=hyb
 have pE:32*(2*KB)=32*KB+32*KB:=by omega
 have hn1:(xa*(yb:Int)).natAbs<2^(32*(2*KB)):=by
  rw[Int.natAbs_mul,Int.natAbs_natCast,pE,Nat.pow_add]
  exact Nat.mul_lt_mul'' hx2 fD
 have hn2:(ya*(xb:Int)).natAbs<2^(32*(2*KB)):=by
  rw[Int.natAbs_mul,Int.natAbs_natCast,pE,Nat.pow_add]
  exact Nat.mul_lt_mul'' hy2 eX
 have hd2:xb*yb<2^(32*(2*KB)):=by
  rw[pE,Nat.pow_add]
  exact Nat.mul_lt_mul'' eX fD
 have hup:2^(32*(2*KB))*2≤2^(32*(2*KB+1)):=by rw[← Nat.pow_succ];exact Nat.pow_le_pow_right (by omega) (by omega)
 have kY:Hid ((xa*(yb:Int)).natAbs<2^(32*(2*KB))):=hn1
 have eH:Hid ((ya*(xb:Int)).natAbs<2^(32*(2*KB))):=hn2
 have qj:Hid ((xa*(yb:Int)+ya*(xb:Int)).natAbs<2^(32*(2*KB+1))):=by
  show (xa*(yb:Int)+ya*(xb:Int)).natAbs<2^(32*(2*KB+1))
  have:=Int.natAbs_add_le (xa*(yb:Int)) (ya*(xb:Int))
  omega
 have HD2:Hid (xb*yb<2^(32*(2*KB+1))):=by show xb*yb<2^(32*(2*KB+1));omega
 have HD0:Hid (0<xb*yb):=Nat.mul_pos hxb hyb
 clear hx hy hz hx2 hy2 eX fD hxb hyb pE hn1 hn2 hd2 hup
 go_enter Tryz.func58,Tryz.ntmps58
 go_wp2_with fail
 apply share
 ·intro LX
  refine q0G 15 (G w) (by kernel_rfl) (by first|exact(G.refl _).drew|exact G.drew (by assumption)) ?_
  intro bG
  refine q02 2 (v:= ?_) rfl (by kernel_rfl) (fun _ _ _ h=>h) rfl ?_ ‹_› ?_
  rotate_left
  ·intro wq hwq
   first|(go_simp;done)|(go_simp;with_reducible rfl)
  try simp only[aput,List.set]
  refine q02 3 (v:= ?_) rfl (by kernel_rfl) (fun _ _ _ h=>h) rfl ?_ ‹_› ?_
  rotate_left
  ·intro wq hwq
   first|(go_simp;done)|(go_simp;with_reducible rfl)
  try simp only[aput,List.set]
  refine q02 4 (v:= ?_) rfl (by kernel_rfl) (fun _ _ _ h=>h) rfl ?_ ‹_› ?_
  rotate_left
  ·intro wq hwq
   first|(go_simp;done)|(go_simp;with_reducible rfl)
  try simp only[aput,List.set]
  refine q02 5 (v:= ?_) rfl (by kernel_rfl) (fun _ _ _ h=>h) rfl ?_ ‹_› ?_
  rotate_left
  ·intro wq hwq
   first|(go_simp;done)|(go_simp;with_reducible rfl)
  try simp only[aput,List.set]
  refine q02 9 (v:= ?_) rfl (by kernel_rfl) (fun _ _ _ h=>h) rfl ?_ ‹_› ?_
  rotate_left
  ·intro wq hwq
   first|(go_simp;done)|(go_simp;with_reducible rfl)
  try simp only[aput,List.set]
  refine q02 10 (v:= ?_) rfl (by kernel_rfl) (fun _ _ _ h=>h) rfl ?_ ‹_› ?_
  rotate_left
  ·intro wq hwq
   first|(go_simp;done)|(go_simp;with_reducible rfl)
  try simp only[aput,List.set]
  refine q02 11 (v:= ?_) rfl (by kernel_rfl) (fun _ _ _ h=>h) rfl ?_ ‹_› ?_
  rotate_left
  ·intro wq hwq
   first|(go_simp;done)|(go_simp;with_reducible rfl)
  try simp only[aput,List.set]
  refine q02 12 (v:= ?_) rfl (by kernel_rfl) (fun _ _ _ h=>h) rfl ?_ ‹_› ?_
  rotate_left
  ·intro wq hwq
   first|(go_simp;done)|(go_simp;with_reducible rfl)
  try simp only[aput,List.set]
  show q0w _ _ _ _ _ _ _ _ _ w.drew
  have hS5:=bG
  generalize w.drew=w5 at *
  clear bG
  apply share
  intro eD
  apply share
  intro dU
  apply share
  intro fo
  apply share
  intro iH
  apply share
  intro dz
  apply share
  intro fq
  apply share
  intro jY
  apply share
  intro dV
  apply share
  intro jZ
  apply share
  intro kg
  apply share
  intro ko
  apply share
  intro fZ
  apply share
  intro su
  apply share
  intro sD
  apply share
  intro sF
  apply share
  intro kr
  apply share
  intro nE
  apply share
  intro nG
  refine q3a (i:=0) (j:=1) (l:=6) (m:=8) (by kernel_rfl) rfl rfl rfl rfl ?_ ?_ ?_ ?_
  ·skip
   intro K hK
   go_simp
   refine hK.out _ _ (Or.inr (hS5.alloc _)) ?_
   clear hK K
   have hn:=NI.new hS5 83
   have hal:=(G.refl w5).alloc (.cells #[.bool false,.slice none 0 0] 83)
   have aI:=G.trans hS5 hal
   generalize w5.heap.size=p0 at *
   generalize w5.alloc (.cells #[.bool false,.slice none 0 0] 83)=w6 at *
   have ma:=hid hn
   clear hn hal
   refine q0m (i:=1) (j:=6) (l:=8) (by kernel_rfl) rfl rfl rfl ?_ ?_ ?_
   ·skip
    intro K hK
    go_simp
    refine hK.out _ _ (Or.inr (aI.alloc _)) ?_
    clear hK K
    have hn:=NI.new aI 83
    have hal:=(G.refl w6).alloc (.cells #[.bool false,.slice none 0 0] 83)
    have aD:=G.trans aI hal
    have cO:=hid (ma.out.G hal)
    have aA:w6.heap.size≠p0:=by have:=ma.out.2.1;omega
    generalize w6.heap.size=p1 at *
    generalize w6.alloc (.cells #[.bool false,.slice none 0 0] 83)=w7 at *
    have aX:=hid hn
    have ag:Hid (p0≠p1):=aA.symm
    have ai:Hid (p1≠p0):=aA
    clear hn hal aI ma aA
    refine q00 (l':=#[true,true,true,true,true,true,false,false,false,true,true,true,true,false,false,false,false]) (by kernel_rfl) ?_
    revert ai
    revert ag
    revert aX
    revert cO
    revert aD
    revert p1
    revert p0
    revert w7
    exact su.out
   ·skip
    intro K hK
    go_simp
    go_wp2_with (go_at_call 76;refine Calls.mono (P:=Tryz.prog) (q0F w w6 aI b2 ya yb dw hby j3.out) ?_;intro e w7 hx;obtain⟨p4,o4,rfl,hg,h72,dY⟩:=hx)
    refine hK.out _ _ (Or.inr (G.trans aI hg)) ?_
    clear hK K
    have aD:=G.trans aI hg
    have HD7:=hid h72
    have aA:p4≠p0:=by have h1:=ma.out.1;have h2:=ma.out.2.1;omega
    have cO:=hid (ma.out.G hg)
    have aC:Hid (p4≠p0):=aA
    clear hg h72 dY aI ma aA
    refine q00 (l':=#[true,false,true,true,true,true,true,false,false,true,true,true,true,false,false,false,false]) (by kernel_rfl) ?_
    revert aC
    revert HD7
    revert cO
    revert aD
    revert o4
    revert p4
    revert p0
    revert w7
    exact sF.out
   ·skip
    intro K hK
    go_simp
    refine hK.out _ _ (Or.inr (aI.alloc _)) ?_
    clear hK K
    have hn:=NI.new aI 83
    have hal:=(G.refl w6).alloc (.cells #[.bool false,.slice none 0 0] 83)
    have aD:=G.trans aI hal
    have cO:=hid (ma.out.G hal)
    have aA:w6.heap.size≠p0:=by have:=ma.out.2.1;omega
    generalize w6.heap.size=p2 at *
    generalize w6.alloc (.cells #[.bool false,.slice none 0 0] 83)=w7 at *
    have bE:=hid hn
    have aj:Hid (p0≠p2):=aA.symm
    have ak:Hid (p2≠p0):=aA
    clear hn hal aI ma aA
    refine q00 (l':=#[true,false,true,true,true,true,false,false,true,true,true,true,true,false,false,false,false]) (by kernel_rfl) ?_
    revert ak
    revert aj
    revert bE
    revert cO
    revert aD
    revert p2
    revert p0
    revert w7
    exact sD.out
  ·skip
   intro K hK
   go_simp
   refine hK.out _ _ (Or.inr (hS5.alloc _)) ?_
   clear hK K
   have hn:=NI.new hS5 83
   have hal:=(G.refl w5).alloc (.cells #[.bool false,.slice none 0 0] 83)
   have aI:=G.trans hS5 hal
   generalize w5.heap.size=p1 at *
   generalize w5.alloc (.cells #[.bool false,.slice none 0 0] 83)=w6 at *
   have j4:=hid hn
   clear hn hal
   refine q0m (i:=0) (j:=6) (l:=8) (by kernel_rfl) rfl rfl rfl ?_ ?_ ?_
   ·skip
    intro K hK
    go_simp
    refine hK.out _ _ (Or.inr (aI.alloc _)) ?_
    clear hK K
    have hn:=NI.new aI 83
    have hal:=(G.refl w6).alloc (.cells #[.bool false,.slice none 0 0] 83)
    have aD:=G.trans aI hal
    have aX:=hid (j4.out.G hal)
    have af:w6.heap.size≠p1:=by have:=j4.out.2.1;omega
    generalize w6.heap.size=p0 at *
    generalize w6.alloc (.cells #[.bool false,.slice none 0 0] 83)=w7 at *
    have cO:=hid hn
    have ai:Hid (p1≠p0):=af.symm
    have ag:Hid (p0≠p1):=af
    clear hn hal aI j4 af
    refine q00 (l':=#[true,true,true,true,true,true,false,false,false,true,true,true,true,false,false,false,false]) (by kernel_rfl) ?_
    revert ai
    revert ag
    revert aX
    revert cO
    revert aD
    revert p1
    revert p0
    revert w7
    exact su.out
   ·skip
    intro K hK
    go_simp
    go_wp2_with (go_at_call 76;refine Calls.mono (P:=Tryz.prog) (q0F w w6 aI b2 ya yb dw hby j3.out) ?_;intro e w7 hx;obtain⟨p4,o4,rfl,hg,h72,dY⟩:=hx)
    refine hK.out _ _ (Or.inr (G.trans aI hg)) ?_
    clear hK K
    have aD:=G.trans aI hg
    have HD7:=hid h72
    have af:p4≠p1:=by have h1:=j4.out.1;have h2:=j4.out.2.1;omega
    have aX:=hid (j4.out.G hg)
    have au:Hid (p4≠p1):=af
    clear hg h72 dY aI j4 af
    refine q00 (l':=#[false,true,true,true,true,true,true,false,false,true,true,true,true,false,false,false,false]) (by kernel_rfl) ?_
    revert au
    revert HD7
    revert aX
    revert aD
    revert o4
    revert p4
    revert p1
    revert w7
    exact nE.out
   ·skip
    intro K hK
    go_simp
    refine hK.out _ _ (Or.inr (aI.alloc _)) ?_
    clear hK K
    have hn:=NI.new aI 83
    have hal:=(G.refl w6).alloc (.cells #[.bool false,.slice none 0 0] 83)
    have aD:=G.trans aI hal
    have aX:=hid (j4.out.G hal)
    have af:w6.heap.size≠p1:=by have:=j4.out.2.1;omega
    generalize w6.heap.size=p2 at *
    generalize w6.alloc (.cells #[.bool false,.slice none 0 0] 83)=w7 at *
    have bE:=hid hn
    have aa:Hid (p1≠p2):=af.symm
    have ae:Hid (p2≠p1):=af
    clear hn hal aI j4 af
    refine q00 (l':=#[false,true,true,true,true,true,false,false,true,true,true,true,true,false,false,false,false]) (by kernel_rfl) ?_
    revert aa
    revert ae
    revert bE
    revert aX
    revert aD
    revert p2
    revert p1
    revert w7
    exact kr.out
  ·skip
   intro K hK
   go_simp
   go_wp2_with (go_at_call 76;refine Calls.mono (P:=Tryz.prog) (q0F w w5 hS5 b2 ya yb dw hby j3.out) ?_;intro e w6 hx;obtain⟨p4,o4,rfl,hg,h72,dY⟩:=hx)
   refine hK.out _ _ (Or.inr (G.trans hS5 hg)) ?_
   clear hK K
   have aI:=G.trans hS5 hg
   have HD6:=hid h72
   clear hg h72 dY
   refine q0m (i:=0) (j:=1) (l:=8) (by kernel_rfl) rfl rfl rfl ?_ ?_ ?_
   ·skip
    intro K hK
    go_simp
    refine hK.out _ _ (Or.inr (aI.alloc _)) ?_
    clear hK K
    have hn:=NI.new aI 83
    have hal:=(G.refl w6).alloc (.cells #[.bool false,.slice none 0 0] 83)
    have aD:=G.trans aI hal
    have HD7:=hid (HD6.out.G hal)
    have aB:w6.heap.size≠p4:=by have:=(HD6.out.is aI).1;omega
    generalize w6.heap.size=p0 at *
    generalize w6.alloc (.cells #[.bool false,.slice none 0 0] 83)=w7 at *
    have cO:=hid hn
    have aC:Hid (p4≠p0):=aB.symm
    clear hn hal aI HD6 aB
    refine q00 (l':=#[true,false,true,true,true,true,true,false,false,true,true,true,true,false,false,false,false]) (by kernel_rfl) ?_
    revert aC
    revert HD7
    revert cO
    revert aD
    revert o4
    revert p4
    revert p0
    revert w7
    exact sF.out
   ·skip
    intro K hK
    go_simp
    refine hK.out _ _ (Or.inr (aI.alloc _)) ?_
    clear hK K
    have hn:=NI.new aI 83
    have hal:=(G.refl w6).alloc (.cells #[.bool false,.slice none 0 0] 83)
    have aD:=G.trans aI hal
    have HD7:=hid (HD6.out.G hal)
    have aB:w6.heap.size≠p4:=by have:=(HD6.out.is aI).1;omega
    generalize w6.heap.size=p1 at *
    generalize w6.alloc (.cells #[.bool false,.slice none 0 0] 83)=w7 at *
    have aX:=hid hn
    have au:Hid (p4≠p1):=aB.symm
    clear hn hal aI HD6 aB
    refine q00 (l':=#[false,true,true,true,true,true,true,false,false,true,true,true,true,false,false,false,false]) (by kernel_rfl) ?_
    revert au
    revert HD7
    revert aX
    revert aD
    revert o4
    revert p4
    revert p1
    revert w7
    exact nE.out
   ·skip
    intro K hK
    go_simp
    refine hK.out _ _ (Or.inr (aI.alloc _)) ?_
    clear hK K
    have hn:=NI.new aI 83
    have hal:=(G.refl w6).alloc (.cells #[.bool false,.slice none 0 0] 83)
    have aD:=G.trans aI hal
    have HD7:=hid (HD6.out.G hal)
    have aB:w6.heap.size≠p4:=by have:=(HD6.out.is aI).1;omega
    generalize w6.heap.size=p2 at *
    generalize w6.alloc (.cells #[.bool false,.slice none 0 0] 83)=w7 at *
    have bE:=hid hn
    have az:Hid (p4≠p2):=aB.symm
    clear hn hal aI HD6 aB
    refine q00 (l':=#[false,false,true,true,true,true,true,false,true,true,true,true,true,false,false,false,false]) (by kernel_rfl) ?_
    revert az
    revert bE
    revert HD7
    revert aD
    revert p2
    revert o4
    revert p4
    revert w7
    exact nG.out
  ·skip
   intro K hK
   go_simp
   refine hK.out _ _ (Or.inr (hS5.alloc _)) ?_
   clear hK K
   have hn:=NI.new hS5 83
   have hal:=(G.refl w5).alloc (.cells #[.bool false,.slice none 0 0] 83)
   have aI:=G.trans hS5 hal
   generalize w5.heap.size=p2 at *
   generalize w5.alloc (.cells #[.bool false,.slice none 0 0] 83)=w6 at *
   have j5:=hid hn
   clear hn hal
   refine q0m (i:=0) (j:=1) (l:=6) (by kernel_rfl) rfl rfl rfl ?_ ?_ ?_
   ·skip
    intro K hK
    go_simp
    refine hK.out _ _ (Or.inr (aI.alloc _)) ?_
    clear hK K
    have hn:=NI.new aI 83
    have hal:=(G.refl w6).alloc (.cells #[.bool false,.slice none 0 0] 83)
    have aD:=G.trans aI hal
    have bE:=hid (j5.out.G hal)
    have av:w6.heap.size≠p2:=by have:=j5.out.2.1;omega
    generalize w6.heap.size=p0 at *
    generalize w6.alloc (.cells #[.bool false,.slice none 0 0] 83)=w7 at *
    have cO:=hid hn
    have ak:Hid (p2≠p0):=av.symm
    have aj:Hid (p0≠p2):=av
    clear hn hal aI j5 av
    refine q00 (l':=#[true,false,true,true,true,true,false,false,true,true,true,true,true,false,false,false,false]) (by kernel_rfl) ?_
    revert ak
    revert aj
    revert bE
    revert cO
    revert aD
    revert p2
    revert p0
    revert w7
    exact sD.out
   ·skip
    intro K hK
    go_simp
    refine hK.out _ _ (Or.inr (aI.alloc _)) ?_
    clear hK K
    have hn:=NI.new aI 83
    have hal:=(G.refl w6).alloc (.cells #[.bool false,.slice none 0 0] 83)
    have aD:=G.trans aI hal
    have bE:=hid (j5.out.G hal)
    have av:w6.heap.size≠p2:=by have:=j5.out.2.1;omega
    generalize w6.heap.size=p1 at *
    generalize w6.alloc (.cells #[.bool false,.slice none 0 0] 83)=w7 at *
    have aX:=hid hn
    have ae:Hid (p2≠p1):=av.symm
    have aa:Hid (p1≠p2):=av
    clear hn hal aI j5 av
    refine q00 (l':=#[false,true,true,true,true,true,false,false,true,true,true,true,true,false,false,false,false]) (by kernel_rfl) ?_
    revert aa
    revert ae
    revert bE
    revert aX
    revert aD
    revert p2
    revert p1
    revert w7
    exact kr.out
   ·skip
    intro K hK
    go_simp
    go_wp2_with (go_at_call 76;refine Calls.mono (P:=Tryz.prog) (q0F w w6 aI b2 ya yb dw hby j3.out) ?_;intro e w7 hx;obtain⟨p4,o4,rfl,hg,h72,dY⟩:=hx)
    refine hK.out _ _ (Or.inr (G.trans aI hg)) ?_
    clear hK K
    have aD:=G.trans aI hg
    have HD7:=hid h72
    have av:p4≠p2:=by have h1:=j5.out.1;have h2:=j5.out.2.1;omega
    have bE:=hid (j5.out.G hg)
    have az:Hid (p4≠p2):=av
    clear hg h72 dY aI j5 av
    refine q00 (l':=#[false,false,true,true,true,true,true,false,true,true,true,true,true,false,false,false,false]) (by kernel_rfl) ?_
    revert az
    revert bE
    revert HD7
    revert aD
    revert p2
    revert o4
    revert p4
    revert w7
    exact nG.out
  refine Later.mk ?_
  intro w7 p4 o4 p2 aD HD7 bE az
  refine q08 (i:=0) (j:=1) (by kernel_rfl) rfl rfl ?_ ?_
  ·skip
   intro K hK
   go_simp
   refine hK.out _ _ (Or.inr (aD.alloc _)) ?_
   clear hK K
   have hn:=NI.new aD 83
   have hal:=(G.refl w7).alloc (.cells #[.bool false,.slice none 0 0] 83)
   have aG:=G.trans aD hal
   have bP:=hid (HD7.out.G hal)
   have bQ:=hid (bE.out.G hal)
   have aB:w7.heap.size≠p4:=by have:=(HD7.out.is aD).1;omega
   have av:w7.heap.size≠p2:=by have:=bE.out.2.1;omega
   generalize w7.heap.size=p0 at *
   generalize w7.alloc (.cells #[.bool false,.slice none 0 0] 83)=w8 at *
   have df:=hid hn
   have aC:Hid (p4≠p0):=aB.symm
   have ak:Hid (p2≠p0):=av.symm
   have aj:Hid (p0≠p2):=av
   clear hn hal aD HD7 bE aB av
   refine q00 (l':=#[true,false,true,true,true,true,true,false,true,true,true,true,true,false,false,false,false]) (by kernel_rfl) ?_
   revert ak
   revert aC
   revert az
   revert aj
   revert bQ
   revert bP
   revert df
   revert aG
   revert p2
   revert o4
   revert p4
   revert p0
   revert w8
   exact ko.out
  ·skip
   intro K hK
   go_simp
   refine hK.out _ _ (Or.inr (aD.alloc _)) ?_
   clear hK K
   have hn:=NI.new aD 83
   have hal:=(G.refl w7).alloc (.cells #[.bool false,.slice none 0 0] 83)
   have aG:=G.trans aD hal
   have bP:=hid (HD7.out.G hal)
   have bQ:=hid (bE.out.G hal)
   have aB:w7.heap.size≠p4:=by have:=(HD7.out.is aD).1;omega
   have av:w7.heap.size≠p2:=by have:=bE.out.2.1;omega
   generalize w7.heap.size=p1 at *
   generalize w7.alloc (.cells #[.bool false,.slice none 0 0] 83)=w8 at *
   have aT:=hid hn
   have au:Hid (p4≠p1):=aB.symm
   have ae:Hid (p2≠p1):=av.symm
   have aa:Hid (p1≠p2):=av
   clear hn hal aD HD7 bE aB av
   refine q00 (l':=#[false,true,true,true,true,true,true,false,true,true,true,true,true,false,false,false,false]) (by kernel_rfl) ?_
   revert az
   revert aa
   revert ae
   revert au
   revert bQ
   revert bP
   revert aT
   revert aG
   revert p2
   revert o4
   revert p4
   revert p1
   revert w8
   exact fZ.out
  refine Later.mk ?_
  intro w7 p1 p4 o4 aD aX HD7 au
  refine q0m (i:=0) (j:=7) (l:=8) (by kernel_rfl) rfl rfl rfl ?_ ?_ ?_
  ·skip
   intro K hK
   go_simp
   refine hK.out _ _ (Or.inr (aD.alloc _)) ?_
   clear hK K
   have hn:=NI.new aD 83
   have hal:=(G.refl w7).alloc (.cells #[.bool false,.slice none 0 0] 83)
   have aG:=G.trans aD hal
   have aT:=hid (aX.out.G hal)
   have bP:=hid (HD7.out.G hal)
   have af:w7.heap.size≠p1:=by have:=aX.out.2.1;omega
   have aB:w7.heap.size≠p4:=by have:=(HD7.out.is aD).1;omega
   generalize w7.heap.size=p0 at *
   generalize w7.alloc (.cells #[.bool false,.slice none 0 0] 83)=w8 at *
   have df:=hid hn
   have ai:Hid (p1≠p0):=af.symm
   have ag:Hid (p0≠p1):=af
   have aC:Hid (p4≠p0):=aB.symm
   clear hn hal aD aX HD7 af aB
   refine q00 (l':=#[true,true,true,true,true,true,true,false,false,true,true,true,true,false,false,false,false]) (by kernel_rfl) ?_
   revert aC
   revert ai
   revert au
   revert ag
   revert bP
   revert aT
   revert df
   revert aG
   revert o4
   revert p4
   revert p1
   revert p0
   revert w8
   exact kg.out
  ·skip
   intro K hK
   go_simp
   have dA:Hid _:=q0R w7 p1 0 bx 0 p4 o4 0 xa yb KB (by omega) gI.out fV.out aX.out.2.1 (G.lt aD hbx) (HD7.out.is aD).1 aX.out.2.2 (IntIs.G HX0.out hbx aD) (HD7.out.is aD).2
   go_wp2_with (go_at_call 78;refine Calls.mono (P:=Tryz.prog) dA.out ?_;intro e w8 hx;obtain⟨rfl,aG,hl,-,hkp⟩:=SetTo.step aD aX.out hx)
   have aT:=hid hl
   have bP:=hid (DI.keep HD7.out (hkp _ _ au.out))
   refine hK.out _ _ (Or.inr aG) ?_
   clear hK K hx hl hkp dA aD aX HD7
   refine q0m (i:=0) (j:=8) (l:=13) (by kernel_rfl) rfl rfl rfl ?_ ?_ ?_
   ·skip
    intro K hK
    go_simp
    refine hK.out _ _ (Or.inr (aG.alloc _)) ?_
    clear hK K
    have hn:=NI.new aG 83
    have hal:=(G.refl w8).alloc (.cells #[.bool false,.slice none 0 0] 83)
    have aJ:=G.trans aG hal
    have aY:=hid (aT.out.G hal)
    have cZ:=hid (bP.out.G hal)
    have af:w8.heap.size≠p1:=by have:=aT.out.2.1;omega
    have aB:w8.heap.size≠p4:=by have:=(bP.out.is aG).1;omega
    generalize w8.heap.size=p0 at *
    generalize w8.alloc (.cells #[.bool false,.slice none 0 0] 83)=w9 at *
    have dX:=hid hn
    have ai:Hid (p1≠p0):=af.symm
    have ag:Hid (p0≠p1):=af
    have aC:Hid (p4≠p0):=aB.symm
    clear hn hal aG aT bP af aB
    refine q00 (l':=#[true,true,true,true,true,true,true,true,false,true,true,true,true,false,false,false,false]) (by kernel_rfl) ?_
    revert aC
    revert ai
    revert au
    revert ag
    revert cZ
    revert aY
    revert dX
    revert aJ
    revert o4
    revert p4
    revert p1
    revert p0
    revert w9
    exact jY.out
   ·skip
    intro K hK
    go_simp
    refine hK.out _ _ (Or.inr (aG.alloc _)) ?_
    clear hK K
    have hn:=NI.new aG 83
    have hal:=(G.refl w8).alloc (.cells #[.bool false,.slice none 0 0] 83)
    have aJ:=G.trans aG hal
    have aY:=hid (aT.out.G hal)
    have cZ:=hid (bP.out.G hal)
    have af:w8.heap.size≠p1:=by have:=aT.out.2.1;omega
    have aB:w8.heap.size≠p4:=by have:=(bP.out.is aG).1;omega
    generalize w8.heap.size=p2 at *
    generalize w8.alloc (.cells #[.bool false,.slice none 0 0] 83)=w9 at *
    have dC:=hid hn
    have aa:Hid (p1≠p2):=af.symm
    have ae:Hid (p2≠p1):=af
    have az:Hid (p4≠p2):=aB.symm
    clear hn hal aG aT bP af aB
    refine q00 (l':=#[false,true,true,true,true,true,true,true,true,true,true,true,true,false,false,false,false]) (by kernel_rfl) ?_
    revert az
    revert aa
    revert ae
    revert au
    revert dC
    revert cZ
    revert aY
    revert aJ
    revert p2
    revert o4
    revert p4
    revert p1
    revert w9
    exact dV.out
   ·skip
    intro K hK
    go_simp
    go_wp2_with (go_at_call 76;refine Calls.mono (P:=Tryz.prog) (q0F w w8 aG bx xa xb fe hbx lZ.out) ?_;intro e w9 hx;obtain⟨p3,o3,rfl,hg,h72,dY⟩:=hx)
    refine hK.out _ _ (Or.inr (G.trans aG hg)) ?_
    clear hK K
    have aJ:=G.trans aG hg
    have pF:=hid h72
    have af:p3≠p1:=by have h1:=aT.out.1;have h2:=aT.out.2.1;omega
    have aY:=hid (aT.out.G hg)
    have cZ:=hid (bP.out.G hg)
    have aM:Hid (p3≠p1):=af
    clear hg h72 dY aG aT bP af
    refine q08 (i:=0) (j:=8) (by kernel_rfl) rfl rfl ?_ ?_
    ·skip
     intro K hK
     go_simp
     refine hK.out _ _ (Or.inr (aJ.alloc _)) ?_
     clear hK K
     have hn:=NI.new aJ 83
     have hal:=(G.refl w9).alloc (.cells #[.bool false,.slice none 0 0] 83)
     have aF:=G.trans aJ hal
     have aO:=hid (aY.out.G hal)
     have bC:=hid (cZ.out.G hal)
     have bI:=hid (pF.out.G hal)
     have af:w9.heap.size≠p1:=by have:=aY.out.2.1;omega
     have aB:w9.heap.size≠p4:=by have:=(cZ.out.is aJ).1;omega
     have di:w9.heap.size≠p3:=by have:=(pF.out.is aJ).1;omega
     generalize w9.heap.size=p0 at *
     generalize w9.alloc (.cells #[.bool false,.slice none 0 0] 83)=aS at *
     have bY:=hid hn
     have ai:Hid (p1≠p0):=af.symm
     have ag:Hid (p0≠p1):=af
     have aC:Hid (p4≠p0):=aB.symm
     have aZ:Hid (p3≠p0):=di.symm
     clear hn hal aJ aY cZ pF af aB di
     refine q00 (l':=#[true,true,true,true,true,true,true,true,false,true,true,true,true,true,false,false,false]) (by kernel_rfl) ?_
     revert aZ
     revert aC
     revert ai
     revert aM
     revert au
     revert ag
     revert bI
     revert bC
     revert aO
     revert bY
     revert aF
     revert o3
     revert p3
     revert o4
     revert p4
     revert p1
     revert p0
     revert aS
     exact iH.out
    ·skip
     intro K hK
     go_simp
     refine hK.out _ _ (Or.inr (aJ.alloc _)) ?_
     clear hK K
     have hn:=NI.new aJ 83
     have hal:=(G.refl w9).alloc (.cells #[.bool false,.slice none 0 0] 83)
     have aF:=G.trans aJ hal
     have aO:=hid (aY.out.G hal)
     have bC:=hid (cZ.out.G hal)
     have bI:=hid (pF.out.G hal)
     have af:w9.heap.size≠p1:=by have:=aY.out.2.1;omega
     have aB:w9.heap.size≠p4:=by have:=(cZ.out.is aJ).1;omega
     have di:w9.heap.size≠p3:=by have:=(pF.out.is aJ).1;omega
     generalize w9.heap.size=p2 at *
     generalize w9.alloc (.cells #[.bool false,.slice none 0 0] 83)=aS at *
     have aV:=hid hn
     have aa:Hid (p1≠p2):=af.symm
     have ae:Hid (p2≠p1):=af
     have az:Hid (p4≠p2):=aB.symm
     have aN:Hid (p3≠p2):=di.symm
     clear hn hal aJ aY cZ pF af aB di
     refine q00 (l':=#[false,true,true,true,true,true,true,true,true,true,true,true,true,true,false,false,false]) (by kernel_rfl) ?_
     revert aN
     revert az
     revert aa
     revert aM
     revert ae
     revert au
     revert bI
     revert aV
     revert bC
     revert aO
     revert aF
     revert o3
     revert p3
     revert p2
     revert o4
     revert p4
     revert p1
     revert aS
     exact dz.out
  ·skip
   intro K hK
   go_simp
   refine hK.out _ _ (Or.inr (aD.alloc _)) ?_
   clear hK K
   have hn:=NI.new aD 83
   have hal:=(G.refl w7).alloc (.cells #[.bool false,.slice none 0 0] 83)
   have aG:=G.trans aD hal
   have aT:=hid (aX.out.G hal)
   have bP:=hid (HD7.out.G hal)
   have af:w7.heap.size≠p1:=by have:=aX.out.2.1;omega
   have aB:w7.heap.size≠p4:=by have:=(HD7.out.is aD).1;omega
   generalize w7.heap.size=p2 at *
   generalize w7.alloc (.cells #[.bool false,.slice none 0 0] 83)=w8 at *
   have bQ:=hid hn
   have aa:Hid (p1≠p2):=af.symm
   have ae:Hid (p2≠p1):=af
   have az:Hid (p4≠p2):=aB.symm
   clear hn hal aD aX HD7 af aB
   refine q00 (l':=#[false,true,true,true,true,true,true,false,true,true,true,true,true,false,false,false,false]) (by kernel_rfl) ?_
   revert az
   revert aa
   revert ae
   revert au
   revert bQ
   revert bP
   revert aT
   revert aG
   revert p2
   revert o4
   revert p4
   revert p1
   revert w8
   exact fZ.out
  refine Later.mk ?_
  intro w7 p1 p2 aD aX bE ae aa
  refine q08 (i:=0) (j:=6) (by kernel_rfl) rfl rfl ?_ ?_
  ·skip
   intro K hK
   go_simp
   refine hK.out _ _ (Or.inr (aD.alloc _)) ?_
   clear hK K
   have hn:=NI.new aD 83
   have hal:=(G.refl w7).alloc (.cells #[.bool false,.slice none 0 0] 83)
   have aG:=G.trans aD hal
   have aT:=hid (aX.out.G hal)
   have bQ:=hid (bE.out.G hal)
   have af:w7.heap.size≠p1:=by have:=aX.out.2.1;omega
   have av:w7.heap.size≠p2:=by have:=bE.out.2.1;omega
   generalize w7.heap.size=p0 at *
   generalize w7.alloc (.cells #[.bool false,.slice none 0 0] 83)=w8 at *
   have df:=hid hn
   have ai:Hid (p1≠p0):=af.symm
   have ag:Hid (p0≠p1):=af
   have ak:Hid (p2≠p0):=av.symm
   have aj:Hid (p0≠p2):=av
   clear hn hal aD aX bE af av
   refine q00 (l':=#[true,true,true,true,true,true,false,false,true,true,true,true,true,false,false,false,false]) (by kernel_rfl) ?_
   revert ak
   revert ai
   revert aa
   revert aj
   revert ae
   revert ag
   revert bQ
   revert aT
   revert df
   revert aG
   revert p2
   revert p1
   revert p0
   revert w8
   exact jZ.out
  ·skip
   intro K hK
   go_simp
   go_wp2_with (go_at_call 76;refine Calls.mono (P:=Tryz.prog) (q0F w w7 aD b2 ya yb dw hby j3.out) ?_;intro e w8 hx;obtain⟨p4,o4,rfl,hg,h72,dY⟩:=hx)
   refine hK.out _ _ (Or.inr (G.trans aD hg)) ?_
   clear hK K
   have aG:=G.trans aD hg
   have bP:=hid h72
   have af:p4≠p1:=by have h1:=aX.out.1;have h2:=aX.out.2.1;omega
   have av:p4≠p2:=by have h1:=bE.out.1;have h2:=bE.out.2.1;omega
   have aT:=hid (aX.out.G hg)
   have bQ:=hid (bE.out.G hg)
   have au:Hid (p4≠p1):=af
   have az:Hid (p4≠p2):=av
   clear hg h72 dY aD aX bE af av
   refine q00 (l':=#[false,true,true,true,true,true,true,false,true,true,true,true,true,false,false,false,false]) (by kernel_rfl) ?_
   revert az
   revert aa
   revert ae
   revert au
   revert bQ
   revert bP
   revert aT
   revert aG
   revert p2
   revert o4
   revert p4
   revert p1
   revert w8
   exact fZ.out
  refine Later.mk ?_
  intro w7 p0 p4 o4 aD cO HD7 aC
  refine q08 (i:=1) (j:=8) (by kernel_rfl) rfl rfl ?_ ?_
  ·skip
   intro K hK
   go_simp
   refine hK.out _ _ (Or.inr (aD.alloc _)) ?_
   clear hK K
   have hn:=NI.new aD 83
   have hal:=(G.refl w7).alloc (.cells #[.bool false,.slice none 0 0] 83)
   have aG:=G.trans aD hal
   have df:=hid (cO.out.G hal)
   have bP:=hid (HD7.out.G hal)
   have aA:w7.heap.size≠p0:=by have:=cO.out.2.1;omega
   have aB:w7.heap.size≠p4:=by have:=(HD7.out.is aD).1;omega
   generalize w7.heap.size=p1 at *
   generalize w7.alloc (.cells #[.bool false,.slice none 0 0] 83)=w8 at *
   have aT:=hid hn
   have ag:Hid (p0≠p1):=aA.symm
   have ai:Hid (p1≠p0):=aA
   have au:Hid (p4≠p1):=aB.symm
   clear hn hal aD cO HD7 aA aB
   refine q00 (l':=#[true,true,true,true,true,true,true,false,false,true,true,true,true,false,false,false,false]) (by kernel_rfl) ?_
   revert aC
   revert ai
   revert au
   revert ag
   revert bP
   revert aT
   revert df
   revert aG
   revert o4
   revert p4
   revert p1
   revert p0
   revert w8
   exact kg.out
  ·skip
   intro K hK
   go_simp
   refine hK.out _ _ (Or.inr (aD.alloc _)) ?_
   clear hK K
   have hn:=NI.new aD 83
   have hal:=(G.refl w7).alloc (.cells #[.bool false,.slice none 0 0] 83)
   have aG:=G.trans aD hal
   have df:=hid (cO.out.G hal)
   have bP:=hid (HD7.out.G hal)
   have aA:w7.heap.size≠p0:=by have:=cO.out.2.1;omega
   have aB:w7.heap.size≠p4:=by have:=(HD7.out.is aD).1;omega
   generalize w7.heap.size=p2 at *
   generalize w7.alloc (.cells #[.bool false,.slice none 0 0] 83)=w8 at *
   have bQ:=hid hn
   have aj:Hid (p0≠p2):=aA.symm
   have ak:Hid (p2≠p0):=aA
   have az:Hid (p4≠p2):=aB.symm
   clear hn hal aD cO HD7 aA aB
   refine q00 (l':=#[true,false,true,true,true,true,true,false,true,true,true,true,true,false,false,false,false]) (by kernel_rfl) ?_
   revert ak
   revert aC
   revert az
   revert aj
   revert bQ
   revert bP
   revert df
   revert aG
   revert p2
   revert o4
   revert p4
   revert p0
   revert w8
   exact ko.out
  refine Later.mk ?_
  intro w7 p0 p2 aD cO bE aj ak
  refine q08 (i:=1) (j:=6) (by kernel_rfl) rfl rfl ?_ ?_
  ·skip
   intro K hK
   go_simp
   refine hK.out _ _ (Or.inr (aD.alloc _)) ?_
   clear hK K
   have hn:=NI.new aD 83
   have hal:=(G.refl w7).alloc (.cells #[.bool false,.slice none 0 0] 83)
   have aG:=G.trans aD hal
   have df:=hid (cO.out.G hal)
   have bQ:=hid (bE.out.G hal)
   have aA:w7.heap.size≠p0:=by have:=cO.out.2.1;omega
   have av:w7.heap.size≠p2:=by have:=bE.out.2.1;omega
   generalize w7.heap.size=p1 at *
   generalize w7.alloc (.cells #[.bool false,.slice none 0 0] 83)=w8 at *
   have aT:=hid hn
   have ag:Hid (p0≠p1):=aA.symm
   have ai:Hid (p1≠p0):=aA
   have ae:Hid (p2≠p1):=av.symm
   have aa:Hid (p1≠p2):=av
   clear hn hal aD cO bE aA av
   refine q00 (l':=#[true,true,true,true,true,true,false,false,true,true,true,true,true,false,false,false,false]) (by kernel_rfl) ?_
   revert ak
   revert ai
   revert aa
   revert aj
   revert ae
   revert ag
   revert bQ
   revert aT
   revert df
   revert aG
   revert p2
   revert p1
   revert p0
   revert w8
   exact jZ.out
  ·skip
   intro K hK
   go_simp
   go_wp2_with (go_at_call 76;refine Calls.mono (P:=Tryz.prog) (q0F w w7 aD b2 ya yb dw hby j3.out) ?_;intro e w8 hx;obtain⟨p4,o4,rfl,hg,h72,dY⟩:=hx)
   refine hK.out _ _ (Or.inr (G.trans aD hg)) ?_
   clear hK K
   have aG:=G.trans aD hg
   have bP:=hid h72
   have aA:p4≠p0:=by have h1:=cO.out.1;have h2:=cO.out.2.1;omega
   have av:p4≠p2:=by have h1:=bE.out.1;have h2:=bE.out.2.1;omega
   have df:=hid (cO.out.G hg)
   have bQ:=hid (bE.out.G hg)
   have aC:Hid (p4≠p0):=aA
   have az:Hid (p4≠p2):=av
   clear hg h72 dY aD cO bE aA av
   refine q00 (l':=#[true,false,true,true,true,true,true,false,true,true,true,true,true,false,false,false,false]) (by kernel_rfl) ?_
   revert ak
   revert aC
   revert az
   revert aj
   revert bQ
   revert bP
   revert df
   revert aG
   revert p2
   revert o4
   revert p4
   revert p0
   revert w8
   exact ko.out
  refine Later.mk ?_
  intro w7 p0 p1 aD cO aX ag ai
  refine q08 (i:=6) (j:=8) (by kernel_rfl) rfl rfl ?_ ?_
  ·skip
   intro K hK
   go_simp
   go_wp2_with (go_at_call 76;refine Calls.mono (P:=Tryz.prog) (q0F w w7 aD b2 ya yb dw hby j3.out) ?_;intro e w8 hx;obtain⟨p4,o4,rfl,hg,h72,dY⟩:=hx)
   refine hK.out _ _ (Or.inr (G.trans aD hg)) ?_
   clear hK K
   have aG:=G.trans aD hg
   have bP:=hid h72
   have aA:p4≠p0:=by have h1:=cO.out.1;have h2:=cO.out.2.1;omega
   have af:p4≠p1:=by have h1:=aX.out.1;have h2:=aX.out.2.1;omega
   have df:=hid (cO.out.G hg)
   have aT:=hid (aX.out.G hg)
   have aC:Hid (p4≠p0):=aA
   have au:Hid (p4≠p1):=af
   clear hg h72 dY aD cO aX aA af
   refine q00 (l':=#[true,true,true,true,true,true,true,false,false,true,true,true,true,false,false,false,false]) (by kernel_rfl) ?_
   revert aC
   revert ai
   revert au
   revert ag
   revert bP
   revert aT
   revert df
   revert aG
   revert o4
   revert p4
   revert p1
   revert p0
   revert w8
   exact kg.out
  ·skip
   intro K hK
   go_simp
   refine hK.out _ _ (Or.inr (aD.alloc _)) ?_
   clear hK K
   have hn:=NI.new aD 83
   have hal:=(G.refl w7).alloc (.cells #[.bool false,.slice none 0 0] 83)
   have aG:=G.trans aD hal
   have df:=hid (cO.out.G hal)
   have aT:=hid (aX.out.G hal)
   have aA:w7.heap.size≠p0:=by have:=cO.out.2.1;omega
   have af:w7.heap.size≠p1:=by have:=aX.out.2.1;omega
   generalize w7.heap.size=p2 at *
   generalize w7.alloc (.cells #[.bool false,.slice none 0 0] 83)=w8 at *
   have bQ:=hid hn
   have aj:Hid (p0≠p2):=aA.symm
   have ak:Hid (p2≠p0):=aA
   have aa:Hid (p1≠p2):=af.symm
   have ae:Hid (p2≠p1):=af
   clear hn hal aD cO aX aA af
   refine q00 (l':=#[true,true,true,true,true,true,false,false,true,true,true,true,true,false,false,false,false]) (by kernel_rfl) ?_
   revert ak
   revert ai
   revert aa
   revert aj
   revert ae
   revert ag
   revert bQ
   revert aT
   revert df
   revert aG
   revert p2
   revert p1
   revert p0
   revert w8
   exact jZ.out
  refine Later.mk ?_
  intro w8 p1 p4 o4 p2 aG aT bP bQ au ae aa az
  refine q08 (i:=0) (j:=7) (by kernel_rfl) rfl rfl ?_ ?_
  ·skip
   intro K hK
   go_simp
   refine hK.out _ _ (Or.inr (aG.alloc _)) ?_
   clear hK K
   have hn:=NI.new aG 83
   have hal:=(G.refl w8).alloc (.cells #[.bool false,.slice none 0 0] 83)
   have aJ:=G.trans aG hal
   have aY:=hid (aT.out.G hal)
   have cZ:=hid (bP.out.G hal)
   have dC:=hid (bQ.out.G hal)
   have af:w8.heap.size≠p1:=by have:=aT.out.2.1;omega
   have aB:w8.heap.size≠p4:=by have:=(bP.out.is aG).1;omega
   have av:w8.heap.size≠p2:=by have:=bQ.out.2.1;omega
   generalize w8.heap.size=p0 at *
   generalize w8.alloc (.cells #[.bool false,.slice none 0 0] 83)=w9 at *
   have dX:=hid hn
   have ai:Hid (p1≠p0):=af.symm
   have ag:Hid (p0≠p1):=af
   have aC:Hid (p4≠p0):=aB.symm
   have ak:Hid (p2≠p0):=av.symm
   have aj:Hid (p0≠p2):=av
   clear hn hal aG aT bP bQ af aB av
   refine q00 (l':=#[true,true,true,true,true,true,true,false,true,true,true,true,true,false,false,false,false]) (by kernel_rfl) ?_
   revert ak
   revert aC
   revert ai
   revert az
   revert aa
   revert aj
   revert ae
   revert au
   revert ag
   revert dC
   revert cZ
   revert aY
   revert dX
   revert aJ
   revert p2
   revert o4
   revert p4
   revert p1
   revert p0
   revert w9
   exact fq.out
  ·skip
   intro K hK
   go_simp
   have dA:Hid _:=q0R w8 p1 0 bx 0 p4 o4 0 xa yb KB (by omega) gI.out fV.out aT.out.2.1 (G.lt aG hbx) (bP.out.is aG).1 aT.out.2.2 (IntIs.G HX0.out hbx aG) (bP.out.is aG).2
   go_wp2_with (go_at_call 78;refine Calls.mono (P:=Tryz.prog) dA.out ?_;intro e w9 hx;obtain⟨rfl,aJ,hl,-,hkp⟩:=SetTo.step aG aT.out hx)
   have aY:=hid hl
   have cZ:=hid (DI.keep bP.out (hkp _ _ au.out))
   have dC:=hid (hkp _ _ ae.out bQ.out)
   refine hK.out _ _ (Or.inr aJ) ?_
   clear hK K hx hl hkp dA aG aT bP bQ
   refine q00 (l':=#[false,true,true,true,true,true,true,true,true,true,true,true,true,false,false,false,false]) (by kernel_rfl) ?_
   revert az
   revert aa
   revert ae
   revert au
   revert dC
   revert cZ
   revert aY
   revert aJ
   revert p2
   revert o4
   revert p4
   revert p1
   revert w9
   exact dV.out
  refine Later.mk ?_
  intro w8 p0 p4 o4 p2 aG df bP bQ aj az aC ak
  refine q03 (i:=1) (by kernel_rfl) rfl ?_
  intro K hK
  go_simp
  refine hK.out _ _ (Or.inr (aG.alloc _)) ?_
  clear hK K
  have hn:=NI.new aG 83
  have hal:=(G.refl w8).alloc (.cells #[.bool false,.slice none 0 0] 83)
  have aJ:=G.trans aG hal
  have dX:=hid (df.out.G hal)
  have cZ:=hid (bP.out.G hal)
  have dC:=hid (bQ.out.G hal)
  have aA:w8.heap.size≠p0:=by have:=df.out.2.1;omega
  have aB:w8.heap.size≠p4:=by have:=(bP.out.is aG).1;omega
  have av:w8.heap.size≠p2:=by have:=bQ.out.2.1;omega
  generalize w8.heap.size=p1 at *
  generalize w8.alloc (.cells #[.bool false,.slice none 0 0] 83)=w9 at *
  have aY:=hid hn
  have ag:Hid (p0≠p1):=aA.symm
  have ai:Hid (p1≠p0):=aA
  have au:Hid (p4≠p1):=aB.symm
  have ae:Hid (p2≠p1):=av.symm
  have aa:Hid (p1≠p2):=av
  clear hn hal aG df bP bQ aA aB av
  refine q00 (l':=#[true,true,true,true,true,true,true,false,true,true,true,true,true,false,false,false,false]) (by kernel_rfl) ?_
  revert ak
  revert aC
  revert ai
  revert az
  revert aa
  revert aj
  revert ae
  revert au
  revert ag
  revert dC
  revert cZ
  revert aY
  revert dX
  revert aJ
  revert p2
  revert o4
  revert p4
  revert p1
  revert p0
  revert w9
  exact fq.out
  refine Later.mk ?_
  intro w8 p0 p1 p4 o4 aG df aT bP ag au ai aC
  refine q08 (i:=7) (j:=8) (by kernel_rfl) rfl rfl ?_ ?_
  ·skip
   intro K hK
   go_simp
   have dA:Hid _:=q0R w8 p1 0 bx 0 p4 o4 0 xa yb KB (by omega) gI.out fV.out aT.out.2.1 (G.lt aG hbx) (bP.out.is aG).1 aT.out.2.2 (IntIs.G HX0.out hbx aG) (bP.out.is aG).2
   go_wp2_with (go_at_call 78;refine Calls.mono (P:=Tryz.prog) dA.out ?_;intro e w9 hx;obtain⟨rfl,aJ,hl,-,hkp⟩:=SetTo.step aG aT.out hx)
   have aY:=hid hl
   have dX:=hid (hkp _ _ ag.out df.out)
   have cZ:=hid (DI.keep bP.out (hkp _ _ au.out))
   refine hK.out _ _ (Or.inr aJ) ?_
   clear hK K hx hl hkp dA aG df aT bP
   refine q00 (l':=#[true,true,true,true,true,true,true,true,false,true,true,true,true,false,false,false,false]) (by kernel_rfl) ?_
   revert aC
   revert ai
   revert au
   revert ag
   revert cZ
   revert aY
   revert dX
   revert aJ
   revert o4
   revert p4
   revert p1
   revert p0
   revert w9
   exact jY.out
  ·skip
   intro K hK
   go_simp
   refine hK.out _ _ (Or.inr (aG.alloc _)) ?_
   clear hK K
   have hn:=NI.new aG 83
   have hal:=(G.refl w8).alloc (.cells #[.bool false,.slice none 0 0] 83)
   have aJ:=G.trans aG hal
   have dX:=hid (df.out.G hal)
   have aY:=hid (aT.out.G hal)
   have cZ:=hid (bP.out.G hal)
   have aA:w8.heap.size≠p0:=by have:=df.out.2.1;omega
   have af:w8.heap.size≠p1:=by have:=aT.out.2.1;omega
   have aB:w8.heap.size≠p4:=by have:=(bP.out.is aG).1;omega
   generalize w8.heap.size=p2 at *
   generalize w8.alloc (.cells #[.bool false,.slice none 0 0] 83)=w9 at *
   have dC:=hid hn
   have aj:Hid (p0≠p2):=aA.symm
   have ak:Hid (p2≠p0):=aA
   have aa:Hid (p1≠p2):=af.symm
   have ae:Hid (p2≠p1):=af
   have az:Hid (p4≠p2):=aB.symm
   clear hn hal aG df aT bP aA af aB
   refine q00 (l':=#[true,true,true,true,true,true,true,false,true,true,true,true,true,false,false,false,false]) (by kernel_rfl) ?_
   revert ak
   revert aC
   revert ai
   revert az
   revert aa
   revert aj
   revert ae
   revert au
   revert ag
   revert dC
   revert cZ
   revert aY
   revert dX
   revert aJ
   revert p2
   revert o4
   revert p4
   revert p1
   revert p0
   revert w9
   exact fq.out
  refine Later.mk ?_
  intro w8 p0 p1 p2 aG df aT bQ ag ae aj aa ai ak
  refine q03 (i:=6) (by kernel_rfl) rfl ?_
  intro K hK
  go_simp
  go_wp2_with (go_at_call 76;refine Calls.mono (P:=Tryz.prog) (q0F w w8 aG b2 ya yb dw hby j3.out) ?_;intro e w9 hx;obtain⟨p4,o4,rfl,hg,h72,dY⟩:=hx)
  refine hK.out _ _ (Or.inr (G.trans aG hg)) ?_
  clear hK K
  have aJ:=G.trans aG hg
  have cZ:=hid h72
  have aA:p4≠p0:=by have h1:=df.out.1;have h2:=df.out.2.1;omega
  have af:p4≠p1:=by have h1:=aT.out.1;have h2:=aT.out.2.1;omega
  have av:p4≠p2:=by have h1:=bQ.out.1;have h2:=bQ.out.2.1;omega
  have dX:=hid (df.out.G hg)
  have aY:=hid (aT.out.G hg)
  have dC:=hid (bQ.out.G hg)
  have aC:Hid (p4≠p0):=aA
  have au:Hid (p4≠p1):=af
  have az:Hid (p4≠p2):=av
  clear hg h72 dY aG df aT bQ aA af av
  refine q00 (l':=#[true,true,true,true,true,true,true,false,true,true,true,true,true,false,false,false,false]) (by kernel_rfl) ?_
  revert ak
  revert aC
  revert ai
  revert az
  revert aa
  revert aj
  revert ae
  revert au
  revert ag
  revert dC
  revert cZ
  revert aY
  revert dX
  revert aJ
  revert p2
  revert o4
  revert p4
  revert p1
  revert p0
  revert w9
  exact fq.out
  refine Later.mk ?_
  intro w9 p1 p4 o4 p2 aJ aY cZ dC au ae aa az
  refine q08 (i:=0) (j:=13) (by kernel_rfl) rfl rfl ?_ ?_
  ·skip
   intro K hK
   go_simp
   refine hK.out _ _ (Or.inr (aJ.alloc _)) ?_
   clear hK K
   have hn:=NI.new aJ 83
   have hal:=(G.refl w9).alloc (.cells #[.bool false,.slice none 0 0] 83)
   have aF:=G.trans aJ hal
   have aO:=hid (aY.out.G hal)
   have bC:=hid (cZ.out.G hal)
   have aV:=hid (dC.out.G hal)
   have af:w9.heap.size≠p1:=by have:=aY.out.2.1;omega
   have aB:w9.heap.size≠p4:=by have:=(cZ.out.is aJ).1;omega
   have av:w9.heap.size≠p2:=by have:=dC.out.2.1;omega
   generalize w9.heap.size=p0 at *
   generalize w9.alloc (.cells #[.bool false,.slice none 0 0] 83)=aS at *
   have bY:=hid hn
   have ai:Hid (p1≠p0):=af.symm
   have ag:Hid (p0≠p1):=af
   have aC:Hid (p4≠p0):=aB.symm
   have ak:Hid (p2≠p0):=av.symm
   have aj:Hid (p0≠p2):=av
   clear hn hal aJ aY cZ dC af aB av
   refine q00 (l':=#[true,true,true,true,true,true,true,true,true,true,true,true,true,false,false,false,false]) (by kernel_rfl) ?_
   revert ak
   revert aC
   revert ai
   revert az
   revert aa
   revert aj
   revert ae
   revert au
   revert ag
   revert aV
   revert bC
   revert aO
   revert bY
   revert aF
   revert p2
   revert o4
   revert p4
   revert p1
   revert p0
   revert aS
   exact fo.out
  ·skip
   intro K hK
   go_simp
   go_wp2_with (go_at_call 76;refine Calls.mono (P:=Tryz.prog) (q0F w w9 aJ bx xa xb fe hbx lZ.out) ?_;intro e aS hx;obtain⟨p3,o3,rfl,hg,h72,dY⟩:=hx)
   refine hK.out _ _ (Or.inr (G.trans aJ hg)) ?_
   clear hK K
   have aF:=G.trans aJ hg
   have bI:=hid h72
   have af:p3≠p1:=by have h1:=aY.out.1;have h2:=aY.out.2.1;omega
   have av:p3≠p2:=by have h1:=dC.out.1;have h2:=dC.out.2.1;omega
   have aO:=hid (aY.out.G hg)
   have bC:=hid (cZ.out.G hg)
   have aV:=hid (dC.out.G hg)
   have aM:Hid (p3≠p1):=af
   have aN:Hid (p3≠p2):=av
   clear hg h72 dY aJ aY cZ dC af av
   refine q00 (l':=#[false,true,true,true,true,true,true,true,true,true,true,true,true,true,false,false,false]) (by kernel_rfl) ?_
   revert aN
   revert az
   revert aa
   revert aM
   revert ae
   revert au
   revert bI
   revert aV
   revert bC
   revert aO
   revert aF
   revert o3
   revert p3
   revert p2
   revert o4
   revert p4
   revert p1
   revert aS
   exact dz.out
  refine Later.mk ?_
  intro w9 p0 p1 p4 o4 aJ dX aY cZ ag au ai aC
  refine q08 (i:=8) (j:=13) (by kernel_rfl) rfl rfl ?_ ?_
  ·skip
   intro K hK
   go_simp
   refine hK.out _ _ (Or.inr (aJ.alloc _)) ?_
   clear hK K
   have hn:=NI.new aJ 83
   have hal:=(G.refl w9).alloc (.cells #[.bool false,.slice none 0 0] 83)
   have aF:=G.trans aJ hal
   have bY:=hid (dX.out.G hal)
   have aO:=hid (aY.out.G hal)
   have bC:=hid (cZ.out.G hal)
   have aA:w9.heap.size≠p0:=by have:=dX.out.2.1;omega
   have af:w9.heap.size≠p1:=by have:=aY.out.2.1;omega
   have aB:w9.heap.size≠p4:=by have:=(cZ.out.is aJ).1;omega
   generalize w9.heap.size=p2 at *
   generalize w9.alloc (.cells #[.bool false,.slice none 0 0] 83)=aS at *
   have aV:=hid hn
   have aj:Hid (p0≠p2):=aA.symm
   have ak:Hid (p2≠p0):=aA
   have aa:Hid (p1≠p2):=af.symm
   have ae:Hid (p2≠p1):=af
   have az:Hid (p4≠p2):=aB.symm
   clear hn hal aJ dX aY cZ aA af aB
   refine q00 (l':=#[true,true,true,true,true,true,true,true,true,true,true,true,true,false,false,false,false]) (by kernel_rfl) ?_
   revert ak
   revert aC
   revert ai
   revert az
   revert aa
   revert aj
   revert ae
   revert au
   revert ag
   revert aV
   revert bC
   revert aO
   revert bY
   revert aF
   revert p2
   revert o4
   revert p4
   revert p1
   revert p0
   revert aS
   exact fo.out
  ·skip
   intro K hK
   go_simp
   go_wp2_with (go_at_call 76;refine Calls.mono (P:=Tryz.prog) (q0F w w9 aJ bx xa xb fe hbx lZ.out) ?_;intro e aS hx;obtain⟨p3,o3,rfl,hg,h72,dY⟩:=hx)
   refine hK.out _ _ (Or.inr (G.trans aJ hg)) ?_
   clear hK K
   have aF:=G.trans aJ hg
   have bI:=hid h72
   have aA:p3≠p0:=by have h1:=dX.out.1;have h2:=dX.out.2.1;omega
   have af:p3≠p1:=by have h1:=aY.out.1;have h2:=aY.out.2.1;omega
   have bY:=hid (dX.out.G hg)
   have aO:=hid (aY.out.G hg)
   have bC:=hid (cZ.out.G hg)
   have aZ:Hid (p3≠p0):=aA
   have aM:Hid (p3≠p1):=af
   clear hg h72 dY aJ dX aY cZ aA af
   refine q00 (l':=#[true,true,true,true,true,true,true,true,false,true,true,true,true,true,false,false,false]) (by kernel_rfl) ?_
   revert aZ
   revert aC
   revert ai
   revert aM
   revert au
   revert ag
   revert bI
   revert bC
   revert aO
   revert bY
   revert aF
   revert o3
   revert p3
   revert o4
   revert p4
   revert p1
   revert p0
   revert aS
   exact iH.out
  refine Later.mk ?_
  intro w9 p0 p1 p4 o4 p2 aJ dX aY cZ dC ag au ae aj aa az ai aC ak
  refine q03 (i:=7) (by kernel_rfl) rfl ?_
  intro K hK
  go_simp
  have dA:Hid _:=q0R w9 p1 0 bx 0 p4 o4 0 xa yb KB (by omega) gI.out fV.out aY.out.2.1 (G.lt aJ hbx) (cZ.out.is aJ).1 aY.out.2.2 (IntIs.G HX0.out hbx aJ) (cZ.out.is aJ).2
  go_wp2_with (go_at_call 78;refine Calls.mono (P:=Tryz.prog) dA.out ?_;intro e aS hx;obtain⟨rfl,aF,hl,-,hkp⟩:=SetTo.step aJ aY.out hx)
  have aO:=hid hl
  have bY:=hid (hkp _ _ ag.out dX.out)
  have bC:=hid (DI.keep cZ.out (hkp _ _ au.out))
  have aV:=hid (hkp _ _ ae.out dC.out)
  refine hK.out _ _ (Or.inr aF) ?_
  clear hK K hx hl hkp dA aJ dX aY cZ dC
  refine q00 (l':=#[true,true,true,true,true,true,true,true,true,true,true,true,true,false,false,false,false]) (by kernel_rfl) ?_
  revert ak
  revert aC
  revert ai
  revert az
  revert aa
  revert aj
  revert ae
  revert au
  revert ag
  revert aV
  revert bC
  revert aO
  revert bY
  revert aF
  revert p2
  revert o4
  revert p4
  revert p1
  revert p0
  revert aS
  exact fo.out
  refine Later.mk ?_
  intro aS p1 p4 o4 p2 p3 o3 aF aO bC aV bI au ae aM aa az aN
  refine q08 (i:=0) (j:=14) (by kernel_rfl) rfl rfl ?_ ?_
  ·skip
   intro K hK
   go_simp
   refine hK.out _ _ (Or.inr (aF.alloc _)) ?_
   clear hK K
   have hn:=NI.new aF 83
   have hal:=(G.refl aS).alloc (.cells #[.bool false,.slice none 0 0] 83)
   have aW:=G.trans aF hal
   have dm:=hid (aO.out.G hal)
   have gJ:=hid (bC.out.G hal)
   have cu:=hid (aV.out.G hal)
   have fE:=hid (bI.out.G hal)
   have af:aS.heap.size≠p1:=by have:=aO.out.2.1;omega
   have aB:aS.heap.size≠p4:=by have:=(bC.out.is aF).1;omega
   have av:aS.heap.size≠p2:=by have:=aV.out.2.1;omega
   have di:aS.heap.size≠p3:=by have:=(bI.out.is aF).1;omega
   generalize aS.heap.size=p0 at *
   generalize aS.alloc (.cells #[.bool false,.slice none 0 0] 83)=dE at *
   have gp:=hid hn
   have ai:Hid (p1≠p0):=af.symm
   have ag:Hid (p0≠p1):=af
   have aC:Hid (p4≠p0):=aB.symm
   have ak:Hid (p2≠p0):=av.symm
   have aj:Hid (p0≠p2):=av
   have aZ:Hid (p3≠p0):=di.symm
   clear hn hal aF aO bC aV bI af aB av di
   refine q00 (l':=#[true,true,true,true,true,true,true,true,true,true,true,true,true,true,false,false,false]) (by kernel_rfl) ?_
   revert aZ
   revert ak
   revert aC
   revert ai
   revert aN
   revert az
   revert aa
   revert aj
   revert aM
   revert ae
   revert au
   revert ag
   revert fE
   revert cu
   revert gJ
   revert dm
   revert gp
   revert aW
   revert o3
   revert p3
   revert p2
   revert o4
   revert p4
   revert p1
   revert p0
   revert dE
   exact dU.out
  ·skip
   intro K hK
   go_simp
   have dA:Hid _:=q0R aS p2 0 b2 0 p3 o3 0 ya xb KB (by omega) jX.out jq.out aV.out.2.1 (G.lt aF hby) (bI.out.is aF).1 aV.out.2.2 (IntIs.G qc.out hby aF) (bI.out.is aF).2
   go_wp2_with (go_at_call 78;refine Calls.mono (P:=Tryz.prog) dA.out ?_;intro e dE hx;obtain⟨rfl,aW,hl,-,hkp⟩:=SetTo.step aF aV.out hx)
   have cu:=hid hl
   have dm:=hid (hkp _ _ aa.out aO.out)
   have gJ:=hid (DI.keep bC.out (hkp _ _ az.out))
   have fE:=hid (DI.keep bI.out (hkp _ _ aN.out))
   refine hK.out _ _ (Or.inr aW) ?_
   clear hK K hx hl hkp dA aF aO bC aV bI
   refine q03 (i:=0) (by kernel_rfl) rfl ?_
   intro K hK
   go_simp
   refine hK.out _ _ (Or.inr (aW.alloc _)) ?_
   clear hK K
   have hn:=NI.new aW 83
   have hal:=(G.refl dE).alloc (.cells #[.bool false,.slice none 0 0] 83)
   have fu:=G.trans aW hal
   have eF:=hid (dm.out.G hal)
   have mh:=hid (gJ.out.G hal)
   have eG:=hid (cu.out.G hal)
   have mi:=hid (fE.out.G hal)
   have af:dE.heap.size≠p1:=by have:=dm.out.2.1;omega
   have aB:dE.heap.size≠p4:=by have:=(gJ.out.is aW).1;omega
   have av:dE.heap.size≠p2:=by have:=cu.out.2.1;omega
   have di:dE.heap.size≠p3:=by have:=(fE.out.is aW).1;omega
   generalize dE.heap.size=p0 at *
   generalize dE.alloc (.cells #[.bool false,.slice none 0 0] 83)=kv at *
   have gq:=hid hn
   have ai:Hid (p1≠p0):=af.symm
   have ag:Hid (p0≠p1):=af
   have aC:Hid (p4≠p0):=aB.symm
   have ak:Hid (p2≠p0):=av.symm
   have aj:Hid (p0≠p2):=av
   have aZ:Hid (p3≠p0):=di.symm
   clear hn hal aW dm gJ cu fE af aB av di
   refine q00 (l':=#[true,true,true,true,true,true,true,true,true,true,true,true,true,true,true,false,false]) (by kernel_rfl) ?_
   revert aZ
   revert ak
   revert aC
   revert ai
   revert aN
   revert az
   revert aa
   revert aj
   revert aM
   revert ae
   revert au
   revert ag
   revert mi
   revert eG
   revert mh
   revert eF
   revert gq
   revert fu
   revert o3
   revert p3
   revert p2
   revert o4
   revert p4
   revert p1
   revert p0
   revert kv
   exact eD.out
  refine Later.mk ?_
  intro aS p0 p1 p4 o4 p3 o3 aF bY aO bC bI ag au aM ai aC aZ
  refine q03 (i:=8) (by kernel_rfl) rfl ?_
  intro K hK
  go_simp
  refine hK.out _ _ (Or.inr (aF.alloc _)) ?_
  clear hK K
  have hn:=NI.new aF 83
  have hal:=(G.refl aS).alloc (.cells #[.bool false,.slice none 0 0] 83)
  have aW:=G.trans aF hal
  have gp:=hid (bY.out.G hal)
  have dm:=hid (aO.out.G hal)
  have gJ:=hid (bC.out.G hal)
  have fE:=hid (bI.out.G hal)
  have aA:aS.heap.size≠p0:=by have:=bY.out.2.1;omega
  have af:aS.heap.size≠p1:=by have:=aO.out.2.1;omega
  have aB:aS.heap.size≠p4:=by have:=(bC.out.is aF).1;omega
  have di:aS.heap.size≠p3:=by have:=(bI.out.is aF).1;omega
  generalize aS.heap.size=p2 at *
  generalize aS.alloc (.cells #[.bool false,.slice none 0 0] 83)=dE at *
  have cu:=hid hn
  have aj:Hid (p0≠p2):=aA.symm
  have ak:Hid (p2≠p0):=aA
  have aa:Hid (p1≠p2):=af.symm
  have ae:Hid (p2≠p1):=af
  have az:Hid (p4≠p2):=aB.symm
  have aN:Hid (p3≠p2):=di.symm
  clear hn hal aF bY aO bC bI aA af aB di
  refine q00 (l':=#[true,true,true,true,true,true,true,true,true,true,true,true,true,true,false,false,false]) (by kernel_rfl) ?_
  revert aZ
  revert ak
  revert aC
  revert ai
  revert aN
  revert az
  revert aa
  revert aj
  revert aM
  revert ae
  revert au
  revert ag
  revert fE
  revert cu
  revert gJ
  revert dm
  revert gp
  revert aW
  revert o3
  revert p3
  revert p2
  revert o4
  revert p4
  revert p1
  revert p0
  revert dE
  exact dU.out
  refine Later.mk ?_
  intro aS p0 p1 p4 o4 p2 aF bY aO bC aV ag au ae aj aa az ai aC ak
  refine q03 (i:=13) (by kernel_rfl) rfl ?_
  intro K hK
  go_simp
  go_wp2_with (go_at_call 76;refine Calls.mono (P:=Tryz.prog) (q0F w aS aF bx xa xb fe hbx lZ.out) ?_;intro e dE hx;obtain⟨p3,o3,rfl,hg,h72,dY⟩:=hx)
  refine hK.out _ _ (Or.inr (G.trans aF hg)) ?_
  clear hK K
  have aW:=G.trans aF hg
  have fE:=hid h72
  have aA:p3≠p0:=by have h1:=bY.out.1;have h2:=bY.out.2.1;omega
  have af:p3≠p1:=by have h1:=aO.out.1;have h2:=aO.out.2.1;omega
  have av:p3≠p2:=by have h1:=aV.out.1;have h2:=aV.out.2.1;omega
  have gp:=hid (bY.out.G hg)
  have dm:=hid (aO.out.G hg)
  have gJ:=hid (bC.out.G hg)
  have cu:=hid (aV.out.G hg)
  have aZ:Hid (p3≠p0):=aA
  have aM:Hid (p3≠p1):=af
  have aN:Hid (p3≠p2):=av
  clear hg h72 dY aF bY aO bC aV aA af av
  refine q00 (l':=#[true,true,true,true,true,true,true,true,true,true,true,true,true,true,false,false,false]) (by kernel_rfl) ?_
  revert aZ
  revert ak
  revert aC
  revert ai
  revert aN
  revert az
  revert aa
  revert aj
  revert aM
  revert ae
  revert au
  revert ag
  revert fE
  revert cu
  revert gJ
  revert dm
  revert gp
  revert aW
  revert o3
  revert p3
  revert p2
  revert o4
  revert p4
  revert p1
  revert p0
  revert dE
  exact dU.out
  refine Later.mk ?_
  intro dE p0 p1 p4 o4 p2 p3 o3 aW gp dm gJ cu fE ag au ae aM aj aa az aN ai aC ak aZ
  refine q03 (i:=14) (by kernel_rfl) rfl ?_
  intro K hK
  go_simp
  have dA:Hid _:=q0R dE p2 0 b2 0 p3 o3 0 ya xb KB (by omega) jX.out jq.out cu.out.2.1 (G.lt aW hby) (fE.out.is aW).1 cu.out.2.2 (IntIs.G qc.out hby aW) (fE.out.is aW).2
  go_wp2_with (go_at_call 78;refine Calls.mono (P:=Tryz.prog) dA.out ?_;intro e kv hx;obtain⟨rfl,fu,hl,-,hkp⟩:=SetTo.step aW cu.out hx)
  have eG:=hid hl
  have gq:=hid (hkp _ _ aj.out gp.out)
  have eF:=hid (hkp _ _ aa.out dm.out)
  have mh:=hid (DI.keep gJ.out (hkp _ _ az.out))
  have mi:=hid (DI.keep fE.out (hkp _ _ aN.out))
  refine hK.out _ _ (Or.inr fu) ?_
  clear hK K hx hl hkp dA aW gp dm gJ cu fE
  refine q00 (l':=#[true,true,true,true,true,true,true,true,true,true,true,true,true,true,true,false,false]) (by kernel_rfl) ?_
  revert aZ
  revert ak
  revert aC
  revert ai
  revert aN
  revert az
  revert aa
  revert aj
  revert aM
  revert ae
  revert au
  revert ag
  revert mi
  revert eG
  revert mh
  revert eF
  revert gq
  revert fu
  revert o3
  revert p3
  revert p2
  revert o4
  revert p4
  revert p1
  revert p0
  revert kv
  exact eD.out
  refine Later.mk ?_
  intro kv p0 p1 p4 o4 p2 p3 o3 fu gq eF mh eG mi ag au ae aM aj aa az aN ai aC ak aZ
  refine q03 (i:=15) (by kernel_rfl) rfl ?_
  intro K hK
  go_simp
  have dA:Hid _:=qbu kv p0 0 p1 0 p2 0 0 (xa*(yb:Int)) (ya*(xb:Int)) (2*KB) (by omega) kY.out eH.out gq.out.2.1 eF.out.2.1 eG.out.2.1 gq.out.2.2 eF.out.2.2 eG.out.2.2
  go_wp2_with (go_at_call 100;refine Calls.mono (P:=Tryz.prog) dA.out ?_;intro e kz hx;obtain⟨rfl,mf,hl,-,hkp⟩:=SetTo.step fu gq.out hx)
  have mg:=hid hl
  have oM:=hid (hkp _ _ ai.out eF.out)
  have zT:=hid (DI.keep mh.out (hkp _ _ aC.out))
  have oN:=hid (hkp _ _ ak.out eG.out)
  have zU:=hid (DI.keep mi.out (hkp _ _ aZ.out))
  refine hK.out _ _ (Or.inl (by decide)) ?_
  clear hK K hx hl hkp dA fu gq eF mh eG mi
  refine q03 (i:=16) (by kernel_rfl) rfl ?_
  intro K hK
  go_simp
  refine hK.out _ _ (Or.inl (by decide)) ?_
  clear hK K
  refine q0f (by kernel_rfl) ?_ _
  revert aZ
  revert ak
  revert aC
  revert ai
  revert aN
  revert az
  revert aa
  revert aj
  revert aM
  revert ae
  revert au
  revert ag
  revert zU
  revert oN
  revert zT
  revert oM
  revert mg
  revert mf
  revert o3
  revert p3
  revert p2
  revert o4
  revert p4
  revert p1
  revert p0
  revert kz
  exact LX.out
 ·skip
  refine Later.mk ?_
  intro kz p0 p1 p4 o4 p2 p3 o3 mf mg oM zT oN zU ag au ae aM aj aa az aN ai aC ak aZ
  clear ag au ae aM aj aa az aN ai aC ak aZ
  have HS:=mg.out
  have hG:=mf
  clear mg oM oN zT zU mf
  have tY:Hid (NI w kz p0 (xa*(yb:Int)+ya*(xb:Int))):=HS
  clear HS
  go_wp2_with fail
  have hn0:=NI.new hG 83
  have hal:=(G.refl kz).alloc (.cells #[.bool false,.slice none 0 0] 83)
  have hG1:=G.trans hG hal
  have hs1:=tY.out.G hal
  have hne:p0≠kz.heap.size:=by have:=tY.out.2.1;omega
  generalize kz.heap.size=pd at *
  generalize kz.alloc (.cells #[.bool false,.slice none 0 0] 83)=v1 at *
  have jJ:Hid (NI w v1 pd 0):=hn0
  have mV:Hid (NI w v1 p0 (xa*(yb:Int)+ya*(xb:Int))):=hs1
  clear hn0 hal hs1 hG tY
  refine Calls.mono (P:=Tryz.prog) (q0F w v1 hG1 bx xa xb fe hbx lZ.out) ?_
  rintro e v2 ⟨pe,oe,rfl,hg2,k2,-⟩
  have HE2:Hid (DI w v2 pe oe xb):=k2
  clear k2
  have hG2:=G.trans hG1 hg2
  have jS:Hid (NI w v2 pd 0):=jJ.out.G hg2
  have HS2:Hid (NI w v2 p0 (xa*(yb:Int)+ya*(xb:Int))):=mV.out.G hg2
  clear hG1 hg2 jJ mV
  go_wp2_with fail
  refine Calls.mono (P:=Tryz.prog) (q0F w v2 hG2 b2 ya yb dw hby j3.out) ?_
  rintro e v3 ⟨pf,of,rfl,hg3,k3,-⟩
  have xc:Hid (DI w v3 pf of yb):=k3
  have hG3:=G.trans hG2 hg3
  have vE:Hid (NI w v3 pd 0):=jS.out.G hg3
  have pY:Hid (NI w v3 p0 (xa*(yb:Int)+ya*(xb:Int))):=HS2.out.G hg3
  have O1:Hid (DI w v3 pe oe xb):=HE2.out.G hg3
  clear hG2 hg3 jS HS2 HE2 k3
  have HM:Hid _:=q0R v3 pd 0 pe oe pf of 0 xb yb KB (by omega) jq.out fV.out vE.out.2.1 (O1.out.is hG3).1 (xc.out.is hG3).1 vE.out.2.2 (O1.out.is hG3).2 (xc.out.is hG3).2
  go_wp2_with fail
  refine Calls.mono (P:=Tryz.prog) HM.out ?_
  intro e v4 hs
  obtain⟨rfl,hG4,lY,-,hkp⟩:=SetTo.step hG3 vE.out hs
  have uB:Hid (NI w v4 p0 (xa*(yb:Int)+ya*(xb:Int))):=hkp p0 _ hne pY.out
  rw[show (xb:Int)*yb=((xb*yb:Nat):Int) from by push_cast;rfl] at lY
  have zS:Hid (NI w v4 pd ((xb*yb:Nat):Int)):=lY
  clear hs hkp lY HM vE pY hG3 hne
  have HF:Hid _:=q0V v4 bz p0 0 pd 0 s1 s2 (xa*(yb:Int)+ya*(xb:Int)) (xb*yb) (2*KB+1) (by omega) qj.out HD2.out HD0.out (G.lt hG4 hbz) uB.out.2.1 zS.out.2.1 (EF.out.G hbz hG4) uB.out.2.2 zS.out.2.2
  go_wp2_with fail
  refine Calls.mono (P:=Tryz.prog) HF.out ?_
  intro e v5 hs
  obtain⟨rfl,k1,k2⟩:=NormTo.after hG4 hs
  have kF:Hid _:=k2
  clear hs k2 HF uB zS
  go_wp2_with fail
  go_ret
  exact⟨rfl,k1,kF.out⟩
end Go.Proofs.YtdidnnbpdcanlaaGreatDoor
