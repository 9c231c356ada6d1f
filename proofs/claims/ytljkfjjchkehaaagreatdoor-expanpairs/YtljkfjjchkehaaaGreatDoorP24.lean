/- What is proved here: contracts of the reference: powers of two as ratios, over this seat's translation.
What is proved here: contracts of the reference's ratios: Sub of Rat, over this seat's translation.
What is proved here: contracts of the reference's ratios: den of any Rat, laid or new, over this seat's translation.
What is proved here: contracts of the reference's ratios: Add of Rat, of laid ones and of new ones, over this seat's translation. -/
import Derived.Test.YtljkfjjchkehaaaGreatDoorP23
import Derived.Test.YtljkfjjchkehaaaGreatDoorP18
import Derived.Test.YtljkfjjchkehaaaGreatDoorP13
namespace Go.Proofs.YtljkfjjchkehaaaGreatDoor
open Go.ChangeShapes Go.WideShapes Go.ChangeAt Go.RowKit
open BN
/-- A call hands back a new Rat; nothing that was there has turned. -/
def RetR (w:World) (sa:Int) (sb:Nat) (e:Ending) (w':World):Prop:=∃ p,e= .returned (.pointer (some ⟨p,0,none⟩))∧G w w'∧w.heap.size≤p∧p<w'.heap.size∧RatIs w' p sa (sb:Int)
theorem NormTo.ret {w0 w:World} {b:Nat} {sa:Int} {sb:Nat} {e:Ending} {w':World} (g:G w0 w) (hb:w0.heap.size≤b) (hs:b<w.heap.size) (h:NormTo w b sa sb e w'):RetR w0 sa sb e w':=
 ⟨b,h.1,GX.fresh g h.2.1 hb,hb,Nat.lt_of_lt_of_le hs h.2.1.size,h.2.2⟩
set_option maxRecDepth 10000 in
set_option maxHeartbeats 8000000 in
theorem qbx (w:World) (bz bx b2:Nat) (s1 s2 xa ya:Int) (xb yb:Nat) (KB:Nat) (hK:KB≤100000) (hx2:xa.natAbs<2^(32*KB)) (hy2:ya.natAbs<2^(32*KB)) (iZ:xb<2^(32*KB)) (jy:yb<2^(32*KB)) (hxb:0<xb) (hyb:0<yb)
  (hbz:bz<w.heap.size) (hbx:bx<w.heap.size) (hby:b2<w.heap.size) (hz:RatIs w bz s1 s2) (hx:RatIs w bx xa xb) (hy:RatIs w b2 ya yb):
  Calls Tryz.prog 31 #[.pointer (some ⟨bz,0,none⟩),.pointer (some ⟨bx,0,none⟩),.pointer (some ⟨b2,0,none⟩)] w (NormTo w bz (Int.tdiv (xa*(yb:Int)-ya*(xb:Int)) (Nat.gcd (xa*(yb:Int)-ya*(xb:Int)).natAbs (xb*yb):Nat)) (xb*yb/Nat.gcd (xa*(yb:Int)-ya*(xb:Int)).natAbs (xb*yb))):=by
 have jZ:Hid (xa.natAbs<2^(32*KB)):=hx2
 have nO:Hid (ya.natAbs<2^(32*KB)):=hy2
 have mr:Hid ((xb:Int).natAbs<2^(32*KB)):=by show (xb:Int).natAbs<2^(32*KB);rw[Int.natAbs_natCast];exact iZ
 have jL:Hid ((yb:Int).natAbs<2^(32*KB)):=by show (yb:Int).natAbs<2^(32*KB);rw[Int.natAbs_natCast];exact jy
 have HX0:Hid (IntIs w bx 0 xa):=hx.1
 have uH:Hid (IntIs w b2 0 ya):=hy.1
 have Bq:Hid (IntIs w bx 2 xb):=hx.2
 have zD:Hid (IntIs w b2 2 yb):=hy.2
 have qi:Hid (RatIs w bx xa xb):=hx
 have kV:Hid (RatIs w b2 ya yb):=hy
 have C8:Hid (RatIs w bz s1 s2):=hz
 have jb:(xb:Int)≠0:=by omega
 have eZ:(yb:Int)≠0:=by omega
 have yE:32*(2*KB)=32*KB+32*KB:=by omega
 have hn1:(xa*(yb:Int)).natAbs<2^(32*(2*KB)):=by
  rw[Int.natAbs_mul,Int.natAbs_natCast,yE,Nat.pow_add]
  exact Nat.mul_lt_mul'' hx2 jy
 have hn2:(ya*(xb:Int)).natAbs<2^(32*(2*KB)):=by
  rw[Int.natAbs_mul,Int.natAbs_natCast,yE,Nat.pow_add]
  exact Nat.mul_lt_mul'' hy2 iZ
 have hd2:xb*yb<2^(32*(2*KB)):=by
  rw[yE,Nat.pow_add]
  exact Nat.mul_lt_mul'' iZ jy
 have hup:2^(32*(2*KB))*2≤2^(32*(2*KB+1)):=by rw[← Nat.pow_succ];exact Nat.pow_le_pow_right (by omega) (by omega)
 have CF:Hid ((xa*(yb:Int)).natAbs<2^(32*(2*KB))):=hn1
 have gY:Hid ((ya*(xb:Int)).natAbs<2^(32*(2*KB))):=hn2
 have Mq:Hid ((xa*(yb:Int)-ya*(xb:Int)).natAbs<2^(32*(2*KB+1))):=by
  show (xa*(yb:Int)-ya*(xb:Int)).natAbs<2^(32*(2*KB+1))
  have:=Int.natAbs_sub_le (xa*(yb:Int)) (ya*(xb:Int))
  omega
 have HD2:Hid (xb*yb<2^(32*(2*KB+1))):=by show xb*yb<2^(32*(2*KB+1));omega
 have HD0:Hid (0<xb*yb):=Nat.mul_pos hxb hyb
 clear hx hy hz hx2 hy2 iZ jy hxb hyb yE hn1 hn2 hd2 hup
 go_enter Tryz.func31,Tryz.ntmps31
 go_wp2_with fail
 apply share
 ·intro LX
  refine q0L 15 (G w) (by kernel_rfl) (by first|exact(G.refl _).drew|exact G.drew (by assumption)) ?_
  intro di
  refine q02 2 (v:= ?_) rfl (by kernel_rfl) (fun _ _ _ h=>h) rfl ?_ ‹_› ?_
  rotate_left
  ·intro wq hwq
   first|(go_simp;done)|(go_simp;with_reducible rfl)
  try simp only[aput,List.set]
  refine q02 3 (v:= ?_) rfl (by kernel_rfl) (fun _ _ _ h=>h) rfl ?_ ‹_› ?_
  rotate_left
  ·intro wq hwq
   first|(go_simp;done)|(go_simp;with_reducible rfl)
  try simp only[aput,List.set]
  refine q02 4 (v:= ?_) rfl (by kernel_rfl) (fun _ _ _ h=>h) rfl ?_ ‹_› ?_
  rotate_left
  ·intro wq hwq
   first|(go_simp;done)|(go_simp;with_reducible rfl)
  try simp only[aput,List.set]
  refine q02 5 (v:= ?_) rfl (by kernel_rfl) (fun _ _ _ h=>h) rfl ?_ ‹_› ?_
  rotate_left
  ·intro wq hwq
   first|(go_simp;done)|(go_simp;with_reducible rfl)
  try simp only[aput,List.set]
  refine q02 9 (v:= ?_) rfl (by kernel_rfl) (fun _ _ _ h=>h) rfl ?_ ‹_› ?_
  rotate_left
  ·intro wq hwq
   first|(go_simp;done)|(go_simp;with_reducible rfl)
  try simp only[aput,List.set]
  refine q02 10 (v:= ?_) rfl (by kernel_rfl) (fun _ _ _ h=>h) rfl ?_ ‹_› ?_
  rotate_left
  ·intro wq hwq
   first|(go_simp;done)|(go_simp;with_reducible rfl)
  try simp only[aput,List.set]
  refine q02 11 (v:= ?_) rfl (by kernel_rfl) (fun _ _ _ h=>h) rfl ?_ ‹_› ?_
  rotate_left
  ·intro wq hwq
   first|(go_simp;done)|(go_simp;with_reducible rfl)
  try simp only[aput,List.set]
  refine q02 12 (v:= ?_) rfl (by kernel_rfl) (fun _ _ _ h=>h) rfl ?_ ‹_› ?_
  rotate_left
  ·intro wq hwq
   first|(go_simp;done)|(go_simp;with_reducible rfl)
  try simp only[aput,List.set]
  show q0E _ _ _ _ _ _ _ _ _ w.drew
  have hS5:=di
  generalize w.drew=w5 at *
  clear di
  apply share
  intro iy
  apply share
  intro fQ
  apply share
  intro iM
  apply share
  intro kL
  apply share
  intro eG
  apply share
  intro iN
  apply share
  intro mD
  apply share
  intro fT
  apply share
  intro mE
  apply share
  intro mF
  apply share
  intro mG
  apply share
  intro jA
  apply share
  intro wF
  apply share
  intro wG
  apply share
  intro wH
  apply share
  intro mH
  apply share
  intro qj
  apply share
  intro ql
  refine q3c (i:=0) (j:=1) (l:=6) (m:=8) (by kernel_rfl) rfl rfl rfl rfl ?_ ?_ ?_ ?_
  ·skip
   intro K hK
   go_simp
   refine hK.out _ _ (Or.inr (hS5.alloc _)) ?_
   clear hK K
   have hn:=NI.new hS5 38
   have hal:=(G.refl w5).alloc (.cells #[.bool false,.slice none 0 0] 38)
   have bE:=G.trans hS5 hal
   generalize w5.heap.size=p0 at *
   generalize w5.alloc (.cells #[.bool false,.slice none 0 0] 38)=w6 at *
   have oJ:=hid hn
   clear hn hal
   refine q0k (i:=1) (j:=6) (l:=8) (by kernel_rfl) rfl rfl rfl ?_ ?_ ?_
   ·skip
    intro K hK
    go_simp
    refine hK.out _ _ (Or.inr (bE.alloc _)) ?_
    clear hK K
    have hn:=NI.new bE 38
    have hal:=(G.refl w6).alloc (.cells #[.bool false,.slice none 0 0] 38)
    have aF:=G.trans bE hal
    have dN:=hid (oJ.out.G hal)
    have av:w6.heap.size≠p0:=by have:=oJ.out.2.1;omega
    generalize w6.heap.size=p1 at *
    generalize w6.alloc (.cells #[.bool false,.slice none 0 0] 38)=w7 at *
    have dC:=hid hn
    have aa:Hid (p0≠p1):=av.symm
    have ae:Hid (p1≠p0):=av
    clear hn hal bE oJ av
    refine q00 (l':=#[true,true,true,true,true,true,false,false,false,true,true,true,true,false,false,false,false]) (by kernel_rfl) ?_
    revert ae
    revert aa
    revert dC
    revert dN
    revert aF
    revert p1
    revert p0
    revert w7
    exact wF.out
   ·skip
    intro K hK
    go_simp
    go_wp2_with (go_at_call 50;refine Calls.mono (P:=Tryz.prog) (q1y w6 b2 ya yb eZ (kV.out.G hby bE)) ?_;rintro e w7 ⟨rfl,hg⟩)
    refine hK.out _ _ (Or.inr (G.trans bE hg)) ?_
    clear hK K
    have aF:=G.trans bE hg
    have dN:=hid (oJ.out.G hg)
    clear hg bE oJ
    refine q00 (l':=#[true,false,true,true,true,true,true,false,false,true,true,true,true,false,false,false,false]) (by kernel_rfl) ?_
    revert dN
    revert aF
    revert p0
    revert w7
    exact wH.out
   ·skip
    intro K hK
    go_simp
    refine hK.out _ _ (Or.inr (bE.alloc _)) ?_
    clear hK K
    have hn:=NI.new bE 38
    have hal:=(G.refl w6).alloc (.cells #[.bool false,.slice none 0 0] 38)
    have aF:=G.trans bE hal
    have dN:=hid (oJ.out.G hal)
    have av:w6.heap.size≠p0:=by have:=oJ.out.2.1;omega
    generalize w6.heap.size=p2 at *
    generalize w6.alloc (.cells #[.bool false,.slice none 0 0] 38)=w7 at *
    have dO:=hid hn
    have aj:Hid (p0≠p2):=av.symm
    have ak:Hid (p2≠p0):=av
    clear hn hal bE oJ av
    refine q00 (l':=#[true,false,true,true,true,true,false,false,true,true,true,true,true,false,false,false,false]) (by kernel_rfl) ?_
    revert ak
    revert aj
    revert dO
    revert dN
    revert aF
    revert p2
    revert p0
    revert w7
    exact wG.out
  ·skip
   intro K hK
   go_simp
   refine hK.out _ _ (Or.inr (hS5.alloc _)) ?_
   clear hK K
   have hn:=NI.new hS5 38
   have hal:=(G.refl w5).alloc (.cells #[.bool false,.slice none 0 0] 38)
   have bE:=G.trans hS5 hal
   generalize w5.heap.size=p1 at *
   generalize w5.alloc (.cells #[.bool false,.slice none 0 0] 38)=w6 at *
   have ni:=hid hn
   clear hn hal
   refine q0k (i:=0) (j:=6) (l:=8) (by kernel_rfl) rfl rfl rfl ?_ ?_ ?_
   ·skip
    intro K hK
    go_simp
    refine hK.out _ _ (Or.inr (bE.alloc _)) ?_
    clear hK K
    have hn:=NI.new bE 38
    have hal:=(G.refl w6).alloc (.cells #[.bool false,.slice none 0 0] 38)
    have aF:=G.trans bE hal
    have dC:=hid (ni.out.G hal)
    have ai:w6.heap.size≠p1:=by have:=ni.out.2.1;omega
    generalize w6.heap.size=p0 at *
    generalize w6.alloc (.cells #[.bool false,.slice none 0 0] 38)=w7 at *
    have dN:=hid hn
    have ae:Hid (p1≠p0):=ai.symm
    have aa:Hid (p0≠p1):=ai
    clear hn hal bE ni ai
    refine q00 (l':=#[true,true,true,true,true,true,false,false,false,true,true,true,true,false,false,false,false]) (by kernel_rfl) ?_
    revert ae
    revert aa
    revert dC
    revert dN
    revert aF
    revert p1
    revert p0
    revert w7
    exact wF.out
   ·skip
    intro K hK
    go_simp
    go_wp2_with (go_at_call 50;refine Calls.mono (P:=Tryz.prog) (q1y w6 b2 ya yb eZ (kV.out.G hby bE)) ?_;rintro e w7 ⟨rfl,hg⟩)
    refine hK.out _ _ (Or.inr (G.trans bE hg)) ?_
    clear hK K
    have aF:=G.trans bE hg
    have dC:=hid (ni.out.G hg)
    clear hg bE ni
    refine q00 (l':=#[false,true,true,true,true,true,true,false,false,true,true,true,true,false,false,false,false]) (by kernel_rfl) ?_
    revert dC
    revert aF
    revert p1
    revert w7
    exact qj.out
   ·skip
    intro K hK
    go_simp
    refine hK.out _ _ (Or.inr (bE.alloc _)) ?_
    clear hK K
    have hn:=NI.new bE 38
    have hal:=(G.refl w6).alloc (.cells #[.bool false,.slice none 0 0] 38)
    have aF:=G.trans bE hal
    have dC:=hid (ni.out.G hal)
    have ai:w6.heap.size≠p1:=by have:=ni.out.2.1;omega
    generalize w6.heap.size=p2 at *
    generalize w6.alloc (.cells #[.bool false,.slice none 0 0] 38)=w7 at *
    have dO:=hid hn
    have af:Hid (p1≠p2):=ai.symm
    have ag:Hid (p2≠p1):=ai
    clear hn hal bE ni ai
    refine q00 (l':=#[false,true,true,true,true,true,false,false,true,true,true,true,true,false,false,false,false]) (by kernel_rfl) ?_
    revert af
    revert ag
    revert dO
    revert dC
    revert aF
    revert p2
    revert p1
    revert w7
    exact mH.out
  ·skip
   intro K hK
   go_simp
   go_wp2_with (go_at_call 50;refine Calls.mono (P:=Tryz.prog) (q1y w5 b2 ya yb eZ (kV.out.G hby hS5)) ?_;rintro e w6 ⟨rfl,hg⟩)
   refine hK.out _ _ (Or.inr (G.trans hS5 hg)) ?_
   clear hK K
   have bE:=G.trans hS5 hg
   clear hg
   refine q0k (i:=0) (j:=1) (l:=8) (by kernel_rfl) rfl rfl rfl ?_ ?_ ?_
   ·skip
    intro K hK
    go_simp
    refine hK.out _ _ (Or.inr (bE.alloc _)) ?_
    clear hK K
    have hn:=NI.new bE 38
    have hal:=(G.refl w6).alloc (.cells #[.bool false,.slice none 0 0] 38)
    have aF:=G.trans bE hal
    generalize w6.heap.size=p0 at *
    generalize w6.alloc (.cells #[.bool false,.slice none 0 0] 38)=w7 at *
    have dN:=hid hn
    clear hn hal bE
    refine q00 (l':=#[true,false,true,true,true,true,true,false,false,true,true,true,true,false,false,false,false]) (by kernel_rfl) ?_
    revert dN
    revert aF
    revert p0
    revert w7
    exact wH.out
   ·skip
    intro K hK
    go_simp
    refine hK.out _ _ (Or.inr (bE.alloc _)) ?_
    clear hK K
    have hn:=NI.new bE 38
    have hal:=(G.refl w6).alloc (.cells #[.bool false,.slice none 0 0] 38)
    have aF:=G.trans bE hal
    generalize w6.heap.size=p1 at *
    generalize w6.alloc (.cells #[.bool false,.slice none 0 0] 38)=w7 at *
    have dC:=hid hn
    clear hn hal bE
    refine q00 (l':=#[false,true,true,true,true,true,true,false,false,true,true,true,true,false,false,false,false]) (by kernel_rfl) ?_
    revert dC
    revert aF
    revert p1
    revert w7
    exact qj.out
   ·skip
    intro K hK
    go_simp
    refine hK.out _ _ (Or.inr (bE.alloc _)) ?_
    clear hK K
    have hn:=NI.new bE 38
    have hal:=(G.refl w6).alloc (.cells #[.bool false,.slice none 0 0] 38)
    have aF:=G.trans bE hal
    generalize w6.heap.size=p2 at *
    generalize w6.alloc (.cells #[.bool false,.slice none 0 0] 38)=w7 at *
    have dO:=hid hn
    clear hn hal bE
    refine q00 (l':=#[false,false,true,true,true,true,true,false,true,true,true,true,true,false,false,false,false]) (by kernel_rfl) ?_
    revert dO
    revert aF
    revert p2
    revert w7
    exact ql.out
  ·skip
   intro K hK
   go_simp
   refine hK.out _ _ (Or.inr (hS5.alloc _)) ?_
   clear hK K
   have hn:=NI.new hS5 38
   have hal:=(G.refl w5).alloc (.cells #[.bool false,.slice none 0 0] 38)
   have bE:=G.trans hS5 hal
   generalize w5.heap.size=p2 at *
   generalize w5.alloc (.cells #[.bool false,.slice none 0 0] 38)=w6 at *
   have oK:=hid hn
   clear hn hal
   refine q0k (i:=0) (j:=1) (l:=6) (by kernel_rfl) rfl rfl rfl ?_ ?_ ?_
   ·skip
    intro K hK
    go_simp
    refine hK.out _ _ (Or.inr (bE.alloc _)) ?_
    clear hK K
    have hn:=NI.new bE 38
    have hal:=(G.refl w6).alloc (.cells #[.bool false,.slice none 0 0] 38)
    have aF:=G.trans bE hal
    have dO:=hid (oK.out.G hal)
    have au:w6.heap.size≠p2:=by have:=oK.out.2.1;omega
    generalize w6.heap.size=p0 at *
    generalize w6.alloc (.cells #[.bool false,.slice none 0 0] 38)=w7 at *
    have dN:=hid hn
    have ak:Hid (p2≠p0):=au.symm
    have aj:Hid (p0≠p2):=au
    clear hn hal bE oK au
    refine q00 (l':=#[true,false,true,true,true,true,false,false,true,true,true,true,true,false,false,false,false]) (by kernel_rfl) ?_
    revert ak
    revert aj
    revert dO
    revert dN
    revert aF
    revert p2
    revert p0
    revert w7
    exact wG.out
   ·skip
    intro K hK
    go_simp
    refine hK.out _ _ (Or.inr (bE.alloc _)) ?_
    clear hK K
    have hn:=NI.new bE 38
    have hal:=(G.refl w6).alloc (.cells #[.bool false,.slice none 0 0] 38)
    have aF:=G.trans bE hal
    have dO:=hid (oK.out.G hal)
    have au:w6.heap.size≠p2:=by have:=oK.out.2.1;omega
    generalize w6.heap.size=p1 at *
    generalize w6.alloc (.cells #[.bool false,.slice none 0 0] 38)=w7 at *
    have dC:=hid hn
    have ag:Hid (p2≠p1):=au.symm
    have af:Hid (p1≠p2):=au
    clear hn hal bE oK au
    refine q00 (l':=#[false,true,true,true,true,true,false,false,true,true,true,true,true,false,false,false,false]) (by kernel_rfl) ?_
    revert af
    revert ag
    revert dO
    revert dC
    revert aF
    revert p2
    revert p1
    revert w7
    exact mH.out
   ·skip
    intro K hK
    go_simp
    go_wp2_with (go_at_call 50;refine Calls.mono (P:=Tryz.prog) (q1y w6 b2 ya yb eZ (kV.out.G hby bE)) ?_;rintro e w7 ⟨rfl,hg⟩)
    refine hK.out _ _ (Or.inr (G.trans bE hg)) ?_
    clear hK K
    have aF:=G.trans bE hg
    have dO:=hid (oK.out.G hg)
    clear hg bE oK
    refine q00 (l':=#[false,false,true,true,true,true,true,false,true,true,true,true,true,false,false,false,false]) (by kernel_rfl) ?_
    revert dO
    revert aF
    revert p2
    revert w7
    exact ql.out
  refine Later.mk ?_
  intro w7 p2 aF dO
  refine q07 (i:=0) (j:=1) (by kernel_rfl) rfl rfl ?_ ?_
  ·skip
   intro K hK
   go_simp
   refine hK.out _ _ (Or.inr (aF.alloc _)) ?_
   clear hK K
   have hn:=NI.new aF 38
   have hal:=(G.refl w7).alloc (.cells #[.bool false,.slice none 0 0] 38)
   have aL:=G.trans aF hal
   have dV:=hid (dO.out.G hal)
   have au:w7.heap.size≠p2:=by have:=dO.out.2.1;omega
   generalize w7.heap.size=p0 at *
   generalize w7.alloc (.cells #[.bool false,.slice none 0 0] 38)=w8 at *
   have dW:=hid hn
   have ak:Hid (p2≠p0):=au.symm
   have aj:Hid (p0≠p2):=au
   clear hn hal aF dO au
   refine q00 (l':=#[true,false,true,true,true,true,true,false,true,true,true,true,true,false,false,false,false]) (by kernel_rfl) ?_
   revert ak
   revert aj
   revert dV
   revert dW
   revert aL
   revert p2
   revert p0
   revert w8
   exact mG.out
  ·skip
   intro K hK
   go_simp
   refine hK.out _ _ (Or.inr (aF.alloc _)) ?_
   clear hK K
   have hn:=NI.new aF 38
   have hal:=(G.refl w7).alloc (.cells #[.bool false,.slice none 0 0] 38)
   have aL:=G.trans aF hal
   have dV:=hid (dO.out.G hal)
   have au:w7.heap.size≠p2:=by have:=dO.out.2.1;omega
   generalize w7.heap.size=p1 at *
   generalize w7.alloc (.cells #[.bool false,.slice none 0 0] 38)=w8 at *
   have bO:=hid hn
   have ag:Hid (p2≠p1):=au.symm
   have af:Hid (p1≠p2):=au
   clear hn hal aF dO au
   refine q00 (l':=#[false,true,true,true,true,true,true,false,true,true,true,true,true,false,false,false,false]) (by kernel_rfl) ?_
   revert af
   revert ag
   revert dV
   revert bO
   revert aL
   revert p2
   revert p1
   revert w8
   exact jA.out
  refine Later.mk ?_
  intro w7 p1 aF dC
  refine q0k (i:=0) (j:=7) (l:=8) (by kernel_rfl) rfl rfl rfl ?_ ?_ ?_
  ·skip
   intro K hK
   go_simp
   refine hK.out _ _ (Or.inr (aF.alloc _)) ?_
   clear hK K
   have hn:=NI.new aF 38
   have hal:=(G.refl w7).alloc (.cells #[.bool false,.slice none 0 0] 38)
   have aL:=G.trans aF hal
   have bO:=hid (dC.out.G hal)
   have ai:w7.heap.size≠p1:=by have:=dC.out.2.1;omega
   generalize w7.heap.size=p0 at *
   generalize w7.alloc (.cells #[.bool false,.slice none 0 0] 38)=w8 at *
   have dW:=hid hn
   have ae:Hid (p1≠p0):=ai.symm
   have aa:Hid (p0≠p1):=ai
   clear hn hal aF dC ai
   refine q00 (l':=#[true,true,true,true,true,true,true,false,false,true,true,true,true,false,false,false,false]) (by kernel_rfl) ?_
   revert ae
   revert aa
   revert bO
   revert dW
   revert aL
   revert p1
   revert p0
   revert w8
   exact mF.out
  ·skip
   intro K hK
   go_simp
   have eH:Hid _:=q0W w7 p1 0 bx 0 b2 2 0 xa yb KB (by omega) jZ.out jL.out dC.out.2.1 (G.lt aF hbx) (G.lt aF hby) dC.out.2.2 (IntIs.G HX0.out hbx aF) (IntIs.G zD.out hby aF)
   go_wp2_with (go_at_call 49;refine Calls.mono (P:=Tryz.prog) eH.out ?_;intro e w8 hx;obtain⟨rfl,aL,hl,-,hkp⟩:=SetTo.step aF dC.out hx)
   have bO:=hid hl
   refine hK.out _ _ (Or.inr aL) ?_
   clear hK K hx hl hkp eH aF dC
   refine q0k (i:=0) (j:=8) (l:=13) (by kernel_rfl) rfl rfl rfl ?_ ?_ ?_
   ·skip
    intro K hK
    go_simp
    refine hK.out _ _ (Or.inr (aL.alloc _)) ?_
    clear hK K
    have hn:=NI.new aL 38
    have hal:=(G.refl w8).alloc (.cells #[.bool false,.slice none 0 0] 38)
    have bF:=G.trans aL hal
    have bY:=hid (bO.out.G hal)
    have ai:w8.heap.size≠p1:=by have:=bO.out.2.1;omega
    generalize w8.heap.size=p0 at *
    generalize w8.alloc (.cells #[.bool false,.slice none 0 0] 38)=w9 at *
    have ig:=hid hn
    have ae:Hid (p1≠p0):=ai.symm
    have aa:Hid (p0≠p1):=ai
    clear hn hal aL bO ai
    refine q00 (l':=#[true,true,true,true,true,true,true,true,false,true,true,true,true,false,false,false,false]) (by kernel_rfl) ?_
    revert ae
    revert aa
    revert bY
    revert ig
    revert bF
    revert p1
    revert p0
    revert w9
    exact mD.out
   ·skip
    intro K hK
    go_simp
    refine hK.out _ _ (Or.inr (aL.alloc _)) ?_
    clear hK K
    have hn:=NI.new aL 38
    have hal:=(G.refl w8).alloc (.cells #[.bool false,.slice none 0 0] 38)
    have bF:=G.trans aL hal
    have bY:=hid (bO.out.G hal)
    have ai:w8.heap.size≠p1:=by have:=bO.out.2.1;omega
    generalize w8.heap.size=p2 at *
    generalize w8.alloc (.cells #[.bool false,.slice none 0 0] 38)=w9 at *
    have ik:=hid hn
    have af:Hid (p1≠p2):=ai.symm
    have ag:Hid (p2≠p1):=ai
    clear hn hal aL bO ai
    refine q00 (l':=#[false,true,true,true,true,true,true,true,true,true,true,true,true,false,false,false,false]) (by kernel_rfl) ?_
    revert af
    revert ag
    revert ik
    revert bY
    revert bF
    revert p2
    revert p1
    revert w9
    exact fT.out
   ·skip
    intro K hK
    go_simp
    go_wp2_with (go_at_call 50;refine Calls.mono (P:=Tryz.prog) (q1y w8 bx xa xb jb (qi.out.G hbx aL)) ?_;rintro e w9 ⟨rfl,hg⟩)
    refine hK.out _ _ (Or.inr (G.trans aL hg)) ?_
    clear hK K
    have bF:=G.trans aL hg
    have bY:=hid (bO.out.G hg)
    clear hg aL bO
    refine q07 (i:=0) (j:=8) (by kernel_rfl) rfl rfl ?_ ?_
    ·skip
     intro K hK
     go_simp
     refine hK.out _ _ (Or.inr (bF.alloc _)) ?_
     clear hK K
     have hn:=NI.new bF 38
     have hal:=(G.refl w9).alloc (.cells #[.bool false,.slice none 0 0] 38)
     have aI:=G.trans bF hal
     have bK:=hid (bY.out.G hal)
     have ai:w9.heap.size≠p1:=by have:=bY.out.2.1;omega
     generalize w9.heap.size=p0 at *
     generalize w9.alloc (.cells #[.bool false,.slice none 0 0] 38)=aM at *
     have dE:=hid hn
     have ae:Hid (p1≠p0):=ai.symm
     have aa:Hid (p0≠p1):=ai
     clear hn hal bF bY ai
     refine q00 (l':=#[true,true,true,true,true,true,true,true,false,true,true,true,true,true,false,false,false]) (by kernel_rfl) ?_
     revert ae
     revert aa
     revert bK
     revert dE
     revert aI
     revert p1
     revert p0
     revert aM
     exact kL.out
    ·skip
     intro K hK
     go_simp
     refine hK.out _ _ (Or.inr (bF.alloc _)) ?_
     clear hK K
     have hn:=NI.new bF 38
     have hal:=(G.refl w9).alloc (.cells #[.bool false,.slice none 0 0] 38)
     have aI:=G.trans bF hal
     have bK:=hid (bY.out.G hal)
     have ai:w9.heap.size≠p1:=by have:=bY.out.2.1;omega
     generalize w9.heap.size=p2 at *
     generalize w9.alloc (.cells #[.bool false,.slice none 0 0] 38)=aM at *
     have bX:=hid hn
     have af:Hid (p1≠p2):=ai.symm
     have ag:Hid (p2≠p1):=ai
     clear hn hal bF bY ai
     refine q00 (l':=#[false,true,true,true,true,true,true,true,true,true,true,true,true,true,false,false,false]) (by kernel_rfl) ?_
     revert af
     revert ag
     revert bX
     revert bK
     revert aI
     revert p2
     revert p1
     revert aM
     exact eG.out
  ·skip
   intro K hK
   go_simp
   refine hK.out _ _ (Or.inr (aF.alloc _)) ?_
   clear hK K
   have hn:=NI.new aF 38
   have hal:=(G.refl w7).alloc (.cells #[.bool false,.slice none 0 0] 38)
   have aL:=G.trans aF hal
   have bO:=hid (dC.out.G hal)
   have ai:w7.heap.size≠p1:=by have:=dC.out.2.1;omega
   generalize w7.heap.size=p2 at *
   generalize w7.alloc (.cells #[.bool false,.slice none 0 0] 38)=w8 at *
   have dV:=hid hn
   have af:Hid (p1≠p2):=ai.symm
   have ag:Hid (p2≠p1):=ai
   clear hn hal aF dC ai
   refine q00 (l':=#[false,true,true,true,true,true,true,false,true,true,true,true,true,false,false,false,false]) (by kernel_rfl) ?_
   revert af
   revert ag
   revert dV
   revert bO
   revert aL
   revert p2
   revert p1
   revert w8
   exact jA.out
  refine Later.mk ?_
  intro w7 p1 p2 aF dC dO ag af
  refine q07 (i:=0) (j:=6) (by kernel_rfl) rfl rfl ?_ ?_
  ·skip
   intro K hK
   go_simp
   refine hK.out _ _ (Or.inr (aF.alloc _)) ?_
   clear hK K
   have hn:=NI.new aF 38
   have hal:=(G.refl w7).alloc (.cells #[.bool false,.slice none 0 0] 38)
   have aL:=G.trans aF hal
   have bO:=hid (dC.out.G hal)
   have dV:=hid (dO.out.G hal)
   have ai:w7.heap.size≠p1:=by have:=dC.out.2.1;omega
   have au:w7.heap.size≠p2:=by have:=dO.out.2.1;omega
   generalize w7.heap.size=p0 at *
   generalize w7.alloc (.cells #[.bool false,.slice none 0 0] 38)=w8 at *
   have dW:=hid hn
   have ae:Hid (p1≠p0):=ai.symm
   have aa:Hid (p0≠p1):=ai
   have ak:Hid (p2≠p0):=au.symm
   have aj:Hid (p0≠p2):=au
   clear hn hal aF dC dO ai au
   refine q00 (l':=#[true,true,true,true,true,true,false,false,true,true,true,true,true,false,false,false,false]) (by kernel_rfl) ?_
   revert ak
   revert ae
   revert af
   revert aj
   revert ag
   revert aa
   revert dV
   revert bO
   revert dW
   revert aL
   revert p2
   revert p1
   revert p0
   revert w8
   exact mE.out
  ·skip
   intro K hK
   go_simp
   go_wp2_with (go_at_call 50;refine Calls.mono (P:=Tryz.prog) (q1y w7 b2 ya yb eZ (kV.out.G hby aF)) ?_;rintro e w8 ⟨rfl,hg⟩)
   refine hK.out _ _ (Or.inr (G.trans aF hg)) ?_
   clear hK K
   have aL:=G.trans aF hg
   have bO:=hid (dC.out.G hg)
   have dV:=hid (dO.out.G hg)
   clear hg aF dC dO
   refine q00 (l':=#[false,true,true,true,true,true,true,false,true,true,true,true,true,false,false,false,false]) (by kernel_rfl) ?_
   revert af
   revert ag
   revert dV
   revert bO
   revert aL
   revert p2
   revert p1
   revert w8
   exact jA.out
  refine Later.mk ?_
  intro w7 p0 aF dN
  refine q07 (i:=1) (j:=8) (by kernel_rfl) rfl rfl ?_ ?_
  ·skip
   intro K hK
   go_simp
   refine hK.out _ _ (Or.inr (aF.alloc _)) ?_
   clear hK K
   have hn:=NI.new aF 38
   have hal:=(G.refl w7).alloc (.cells #[.bool false,.slice none 0 0] 38)
   have aL:=G.trans aF hal
   have dW:=hid (dN.out.G hal)
   have av:w7.heap.size≠p0:=by have:=dN.out.2.1;omega
   generalize w7.heap.size=p1 at *
   generalize w7.alloc (.cells #[.bool false,.slice none 0 0] 38)=w8 at *
   have bO:=hid hn
   have aa:Hid (p0≠p1):=av.symm
   have ae:Hid (p1≠p0):=av
   clear hn hal aF dN av
   refine q00 (l':=#[true,true,true,true,true,true,true,false,false,true,true,true,true,false,false,false,false]) (by kernel_rfl) ?_
   revert ae
   revert aa
   revert bO
   revert dW
   revert aL
   revert p1
   revert p0
   revert w8
   exact mF.out
  ·skip
   intro K hK
   go_simp
   refine hK.out _ _ (Or.inr (aF.alloc _)) ?_
   clear hK K
   have hn:=NI.new aF 38
   have hal:=(G.refl w7).alloc (.cells #[.bool false,.slice none 0 0] 38)
   have aL:=G.trans aF hal
   have dW:=hid (dN.out.G hal)
   have av:w7.heap.size≠p0:=by have:=dN.out.2.1;omega
   generalize w7.heap.size=p2 at *
   generalize w7.alloc (.cells #[.bool false,.slice none 0 0] 38)=w8 at *
   have dV:=hid hn
   have aj:Hid (p0≠p2):=av.symm
   have ak:Hid (p2≠p0):=av
   clear hn hal aF dN av
   refine q00 (l':=#[true,false,true,true,true,true,true,false,true,true,true,true,true,false,false,false,false]) (by kernel_rfl) ?_
   revert ak
   revert aj
   revert dV
   revert dW
   revert aL
   revert p2
   revert p0
   revert w8
   exact mG.out
  refine Later.mk ?_
  intro w7 p0 p2 aF dN dO aj ak
  refine q07 (i:=1) (j:=6) (by kernel_rfl) rfl rfl ?_ ?_
  ·skip
   intro K hK
   go_simp
   refine hK.out _ _ (Or.inr (aF.alloc _)) ?_
   clear hK K
   have hn:=NI.new aF 38
   have hal:=(G.refl w7).alloc (.cells #[.bool false,.slice none 0 0] 38)
   have aL:=G.trans aF hal
   have dW:=hid (dN.out.G hal)
   have dV:=hid (dO.out.G hal)
   have av:w7.heap.size≠p0:=by have:=dN.out.2.1;omega
   have au:w7.heap.size≠p2:=by have:=dO.out.2.1;omega
   generalize w7.heap.size=p1 at *
   generalize w7.alloc (.cells #[.bool false,.slice none 0 0] 38)=w8 at *
   have bO:=hid hn
   have aa:Hid (p0≠p1):=av.symm
   have ae:Hid (p1≠p0):=av
   have ag:Hid (p2≠p1):=au.symm
   have af:Hid (p1≠p2):=au
   clear hn hal aF dN dO av au
   refine q00 (l':=#[true,true,true,true,true,true,false,false,true,true,true,true,true,false,false,false,false]) (by kernel_rfl) ?_
   revert ak
   revert ae
   revert af
   revert aj
   revert ag
   revert aa
   revert dV
   revert bO
   revert dW
   revert aL
   revert p2
   revert p1
   revert p0
   revert w8
   exact mE.out
  ·skip
   intro K hK
   go_simp
   go_wp2_with (go_at_call 50;refine Calls.mono (P:=Tryz.prog) (q1y w7 b2 ya yb eZ (kV.out.G hby aF)) ?_;rintro e w8 ⟨rfl,hg⟩)
   refine hK.out _ _ (Or.inr (G.trans aF hg)) ?_
   clear hK K
   have aL:=G.trans aF hg
   have dW:=hid (dN.out.G hg)
   have dV:=hid (dO.out.G hg)
   clear hg aF dN dO
   refine q00 (l':=#[true,false,true,true,true,true,true,false,true,true,true,true,true,false,false,false,false]) (by kernel_rfl) ?_
   revert ak
   revert aj
   revert dV
   revert dW
   revert aL
   revert p2
   revert p0
   revert w8
   exact mG.out
  refine Later.mk ?_
  intro w7 p0 p1 aF dN dC aa ae
  refine q07 (i:=6) (j:=8) (by kernel_rfl) rfl rfl ?_ ?_
  ·skip
   intro K hK
   go_simp
   go_wp2_with (go_at_call 50;refine Calls.mono (P:=Tryz.prog) (q1y w7 b2 ya yb eZ (kV.out.G hby aF)) ?_;rintro e w8 ⟨rfl,hg⟩)
   refine hK.out _ _ (Or.inr (G.trans aF hg)) ?_
   clear hK K
   have aL:=G.trans aF hg
   have dW:=hid (dN.out.G hg)
   have bO:=hid (dC.out.G hg)
   clear hg aF dN dC
   refine q00 (l':=#[true,true,true,true,true,true,true,false,false,true,true,true,true,false,false,false,false]) (by kernel_rfl) ?_
   revert ae
   revert aa
   revert bO
   revert dW
   revert aL
   revert p1
   revert p0
   revert w8
   exact mF.out
  ·skip
   intro K hK
   go_simp
   refine hK.out _ _ (Or.inr (aF.alloc _)) ?_
   clear hK K
   have hn:=NI.new aF 38
   have hal:=(G.refl w7).alloc (.cells #[.bool false,.slice none 0 0] 38)
   have aL:=G.trans aF hal
   have dW:=hid (dN.out.G hal)
   have bO:=hid (dC.out.G hal)
   have av:w7.heap.size≠p0:=by have:=dN.out.2.1;omega
   have ai:w7.heap.size≠p1:=by have:=dC.out.2.1;omega
   generalize w7.heap.size=p2 at *
   generalize w7.alloc (.cells #[.bool false,.slice none 0 0] 38)=w8 at *
   have dV:=hid hn
   have aj:Hid (p0≠p2):=av.symm
   have ak:Hid (p2≠p0):=av
   have af:Hid (p1≠p2):=ai.symm
   have ag:Hid (p2≠p1):=ai
   clear hn hal aF dN dC av ai
   refine q00 (l':=#[true,true,true,true,true,true,false,false,true,true,true,true,true,false,false,false,false]) (by kernel_rfl) ?_
   revert ak
   revert ae
   revert af
   revert aj
   revert ag
   revert aa
   revert dV
   revert bO
   revert dW
   revert aL
   revert p2
   revert p1
   revert p0
   revert w8
   exact mE.out
  refine Later.mk ?_
  intro w8 p1 p2 aL bO dV ag af
  refine q07 (i:=0) (j:=7) (by kernel_rfl) rfl rfl ?_ ?_
  ·skip
   intro K hK
   go_simp
   refine hK.out _ _ (Or.inr (aL.alloc _)) ?_
   clear hK K
   have hn:=NI.new aL 38
   have hal:=(G.refl w8).alloc (.cells #[.bool false,.slice none 0 0] 38)
   have bF:=G.trans aL hal
   have bY:=hid (bO.out.G hal)
   have ik:=hid (dV.out.G hal)
   have ai:w8.heap.size≠p1:=by have:=bO.out.2.1;omega
   have au:w8.heap.size≠p2:=by have:=dV.out.2.1;omega
   generalize w8.heap.size=p0 at *
   generalize w8.alloc (.cells #[.bool false,.slice none 0 0] 38)=w9 at *
   have ig:=hid hn
   have ae:Hid (p1≠p0):=ai.symm
   have aa:Hid (p0≠p1):=ai
   have ak:Hid (p2≠p0):=au.symm
   have aj:Hid (p0≠p2):=au
   clear hn hal aL bO dV ai au
   refine q00 (l':=#[true,true,true,true,true,true,true,false,true,true,true,true,true,false,false,false,false]) (by kernel_rfl) ?_
   revert ak
   revert ae
   revert af
   revert aj
   revert ag
   revert aa
   revert ik
   revert bY
   revert ig
   revert bF
   revert p2
   revert p1
   revert p0
   revert w9
   exact iN.out
  ·skip
   intro K hK
   go_simp
   have eH:Hid _:=q0W w8 p1 0 bx 0 b2 2 0 xa yb KB (by omega) jZ.out jL.out bO.out.2.1 (G.lt aL hbx) (G.lt aL hby) bO.out.2.2 (IntIs.G HX0.out hbx aL) (IntIs.G zD.out hby aL)
   go_wp2_with (go_at_call 49;refine Calls.mono (P:=Tryz.prog) eH.out ?_;intro e w9 hx;obtain⟨rfl,bF,hl,-,hkp⟩:=SetTo.step aL bO.out hx)
   have bY:=hid hl
   have ik:=hid (hkp _ _ ag.out dV.out)
   refine hK.out _ _ (Or.inr bF) ?_
   clear hK K hx hl hkp eH aL bO dV
   refine q00 (l':=#[false,true,true,true,true,true,true,true,true,true,true,true,true,false,false,false,false]) (by kernel_rfl) ?_
   revert af
   revert ag
   revert ik
   revert bY
   revert bF
   revert p2
   revert p1
   revert w9
   exact fT.out
  refine Later.mk ?_
  intro w8 p0 p2 aL dW dV aj ak
  refine q03 (i:=1) (by kernel_rfl) rfl ?_
  intro K hK
  go_simp
  refine hK.out _ _ (Or.inr (aL.alloc _)) ?_
  clear hK K
  have hn:=NI.new aL 38
  have hal:=(G.refl w8).alloc (.cells #[.bool false,.slice none 0 0] 38)
  have bF:=G.trans aL hal
  have ig:=hid (dW.out.G hal)
  have ik:=hid (dV.out.G hal)
  have av:w8.heap.size≠p0:=by have:=dW.out.2.1;omega
  have au:w8.heap.size≠p2:=by have:=dV.out.2.1;omega
  generalize w8.heap.size=p1 at *
  generalize w8.alloc (.cells #[.bool false,.slice none 0 0] 38)=w9 at *
  have bY:=hid hn
  have aa:Hid (p0≠p1):=av.symm
  have ae:Hid (p1≠p0):=av
  have ag:Hid (p2≠p1):=au.symm
  have af:Hid (p1≠p2):=au
  clear hn hal aL dW dV av au
  refine q00 (l':=#[true,true,true,true,true,true,true,false,true,true,true,true,true,false,false,false,false]) (by kernel_rfl) ?_
  revert ak
  revert ae
  revert af
  revert aj
  revert ag
  revert aa
  revert ik
  revert bY
  revert ig
  revert bF
  revert p2
  revert p1
  revert p0
  revert w9
  exact iN.out
  refine Later.mk ?_
  intro w8 p0 p1 aL dW bO aa ae
  refine q07 (i:=7) (j:=8) (by kernel_rfl) rfl rfl ?_ ?_
  ·skip
   intro K hK
   go_simp
   have eH:Hid _:=q0W w8 p1 0 bx 0 b2 2 0 xa yb KB (by omega) jZ.out jL.out bO.out.2.1 (G.lt aL hbx) (G.lt aL hby) bO.out.2.2 (IntIs.G HX0.out hbx aL) (IntIs.G zD.out hby aL)
   go_wp2_with (go_at_call 49;refine Calls.mono (P:=Tryz.prog) eH.out ?_;intro e w9 hx;obtain⟨rfl,bF,hl,-,hkp⟩:=SetTo.step aL bO.out hx)
   have bY:=hid hl
   have ig:=hid (hkp _ _ aa.out dW.out)
   refine hK.out _ _ (Or.inr bF) ?_
   clear hK K hx hl hkp eH aL dW bO
   refine q00 (l':=#[true,true,true,true,true,true,true,true,false,true,true,true,true,false,false,false,false]) (by kernel_rfl) ?_
   revert ae
   revert aa
   revert bY
   revert ig
   revert bF
   revert p1
   revert p0
   revert w9
   exact mD.out
  ·skip
   intro K hK
   go_simp
   refine hK.out _ _ (Or.inr (aL.alloc _)) ?_
   clear hK K
   have hn:=NI.new aL 38
   have hal:=(G.refl w8).alloc (.cells #[.bool false,.slice none 0 0] 38)
   have bF:=G.trans aL hal
   have ig:=hid (dW.out.G hal)
   have bY:=hid (bO.out.G hal)
   have av:w8.heap.size≠p0:=by have:=dW.out.2.1;omega
   have ai:w8.heap.size≠p1:=by have:=bO.out.2.1;omega
   generalize w8.heap.size=p2 at *
   generalize w8.alloc (.cells #[.bool false,.slice none 0 0] 38)=w9 at *
   have ik:=hid hn
   have aj:Hid (p0≠p2):=av.symm
   have ak:Hid (p2≠p0):=av
   have af:Hid (p1≠p2):=ai.symm
   have ag:Hid (p2≠p1):=ai
   clear hn hal aL dW bO av ai
   refine q00 (l':=#[true,true,true,true,true,true,true,false,true,true,true,true,true,false,false,false,false]) (by kernel_rfl) ?_
   revert ak
   revert ae
   revert af
   revert aj
   revert ag
   revert aa
   revert ik
   revert bY
   revert ig
   revert bF
   revert p2
   revert p1
   revert p0
   revert w9
   exact iN.out
  refine Later.mk ?_
  intro w8 p0 p1 p2 aL dW bO dV aa ag aj af ae ak
  refine q03 (i:=6) (by kernel_rfl) rfl ?_
  intro K hK
  go_simp
  go_wp2_with (go_at_call 50;refine Calls.mono (P:=Tryz.prog) (q1y w8 b2 ya yb eZ (kV.out.G hby aL)) ?_;rintro e w9 ⟨rfl,hg⟩)
  refine hK.out _ _ (Or.inr (G.trans aL hg)) ?_
  clear hK K
  have bF:=G.trans aL hg
  have ig:=hid (dW.out.G hg)
  have bY:=hid (bO.out.G hg)
  have ik:=hid (dV.out.G hg)
  clear hg aL dW bO dV
  refine q00 (l':=#[true,true,true,true,true,true,true,false,true,true,true,true,true,false,false,false,false]) (by kernel_rfl) ?_
  revert ak
  revert ae
  revert af
  revert aj
  revert ag
  revert aa
  revert ik
  revert bY
  revert ig
  revert bF
  revert p2
  revert p1
  revert p0
  revert w9
  exact iN.out
  refine Later.mk ?_
  intro w9 p1 p2 bF bY ik ag af
  refine q07 (i:=0) (j:=13) (by kernel_rfl) rfl rfl ?_ ?_
  ·skip
   intro K hK
   go_simp
   refine hK.out _ _ (Or.inr (bF.alloc _)) ?_
   clear hK K
   have hn:=NI.new bF 38
   have hal:=(G.refl w9).alloc (.cells #[.bool false,.slice none 0 0] 38)
   have aI:=G.trans bF hal
   have bK:=hid (bY.out.G hal)
   have bX:=hid (ik.out.G hal)
   have ai:w9.heap.size≠p1:=by have:=bY.out.2.1;omega
   have au:w9.heap.size≠p2:=by have:=ik.out.2.1;omega
   generalize w9.heap.size=p0 at *
   generalize w9.alloc (.cells #[.bool false,.slice none 0 0] 38)=aM at *
   have dE:=hid hn
   have ae:Hid (p1≠p0):=ai.symm
   have aa:Hid (p0≠p1):=ai
   have ak:Hid (p2≠p0):=au.symm
   have aj:Hid (p0≠p2):=au
   clear hn hal bF bY ik ai au
   refine q00 (l':=#[true,true,true,true,true,true,true,true,true,true,true,true,true,false,false,false,false]) (by kernel_rfl) ?_
   revert ak
   revert ae
   revert af
   revert aj
   revert ag
   revert aa
   revert bX
   revert bK
   revert dE
   revert aI
   revert p2
   revert p1
   revert p0
   revert aM
   exact iM.out
  ·skip
   intro K hK
   go_simp
   go_wp2_with (go_at_call 50;refine Calls.mono (P:=Tryz.prog) (q1y w9 bx xa xb jb (qi.out.G hbx bF)) ?_;rintro e aM ⟨rfl,hg⟩)
   refine hK.out _ _ (Or.inr (G.trans bF hg)) ?_
   clear hK K
   have aI:=G.trans bF hg
   have bK:=hid (bY.out.G hg)
   have bX:=hid (ik.out.G hg)
   clear hg bF bY ik
   refine q00 (l':=#[false,true,true,true,true,true,true,true,true,true,true,true,true,true,false,false,false]) (by kernel_rfl) ?_
   revert af
   revert ag
   revert bX
   revert bK
   revert aI
   revert p2
   revert p1
   revert aM
   exact eG.out
  refine Later.mk ?_
  intro w9 p0 p1 bF ig bY aa ae
  refine q07 (i:=8) (j:=13) (by kernel_rfl) rfl rfl ?_ ?_
  ·skip
   intro K hK
   go_simp
   refine hK.out _ _ (Or.inr (bF.alloc _)) ?_
   clear hK K
   have hn:=NI.new bF 38
   have hal:=(G.refl w9).alloc (.cells #[.bool false,.slice none 0 0] 38)
   have aI:=G.trans bF hal
   have dE:=hid (ig.out.G hal)
   have bK:=hid (bY.out.G hal)
   have av:w9.heap.size≠p0:=by have:=ig.out.2.1;omega
   have ai:w9.heap.size≠p1:=by have:=bY.out.2.1;omega
   generalize w9.heap.size=p2 at *
   generalize w9.alloc (.cells #[.bool false,.slice none 0 0] 38)=aM at *
   have bX:=hid hn
   have aj:Hid (p0≠p2):=av.symm
   have ak:Hid (p2≠p0):=av
   have af:Hid (p1≠p2):=ai.symm
   have ag:Hid (p2≠p1):=ai
   clear hn hal bF ig bY av ai
   refine q00 (l':=#[true,true,true,true,true,true,true,true,true,true,true,true,true,false,false,false,false]) (by kernel_rfl) ?_
   revert ak
   revert ae
   revert af
   revert aj
   revert ag
   revert aa
   revert bX
   revert bK
   revert dE
   revert aI
   revert p2
   revert p1
   revert p0
   revert aM
   exact iM.out
  ·skip
   intro K hK
   go_simp
   go_wp2_with (go_at_call 50;refine Calls.mono (P:=Tryz.prog) (q1y w9 bx xa xb jb (qi.out.G hbx bF)) ?_;rintro e aM ⟨rfl,hg⟩)
   refine hK.out _ _ (Or.inr (G.trans bF hg)) ?_
   clear hK K
   have aI:=G.trans bF hg
   have dE:=hid (ig.out.G hg)
   have bK:=hid (bY.out.G hg)
   clear hg bF ig bY
   refine q00 (l':=#[true,true,true,true,true,true,true,true,false,true,true,true,true,true,false,false,false]) (by kernel_rfl) ?_
   revert ae
   revert aa
   revert bK
   revert dE
   revert aI
   revert p1
   revert p0
   revert aM
   exact kL.out
  refine Later.mk ?_
  intro w9 p0 p1 p2 bF ig bY ik aa ag aj af ae ak
  refine q03 (i:=7) (by kernel_rfl) rfl ?_
  intro K hK
  go_simp
  have eH:Hid _:=q0W w9 p1 0 bx 0 b2 2 0 xa yb KB (by omega) jZ.out jL.out bY.out.2.1 (G.lt bF hbx) (G.lt bF hby) bY.out.2.2 (IntIs.G HX0.out hbx bF) (IntIs.G zD.out hby bF)
  go_wp2_with (go_at_call 49;refine Calls.mono (P:=Tryz.prog) eH.out ?_;intro e aM hx;obtain⟨rfl,aI,hl,-,hkp⟩:=SetTo.step bF bY.out hx)
  have bK:=hid hl
  have dE:=hid (hkp _ _ aa.out ig.out)
  have bX:=hid (hkp _ _ ag.out ik.out)
  refine hK.out _ _ (Or.inr aI) ?_
  clear hK K hx hl hkp eH bF ig bY ik
  refine q00 (l':=#[true,true,true,true,true,true,true,true,true,true,true,true,true,false,false,false,false]) (by kernel_rfl) ?_
  revert ak
  revert ae
  revert af
  revert aj
  revert ag
  revert aa
  revert bX
  revert bK
  revert dE
  revert aI
  revert p2
  revert p1
  revert p0
  revert aM
  exact iM.out
  refine Later.mk ?_
  intro aM p1 p2 aI bK bX ag af
  refine q07 (i:=0) (j:=14) (by kernel_rfl) rfl rfl ?_ ?_
  ·skip
   intro K hK
   go_simp
   refine hK.out _ _ (Or.inr (aI.alloc _)) ?_
   clear hK K
   have hn:=NI.new aI 38
   have hal:=(G.refl aM).alloc (.cells #[.bool false,.slice none 0 0] 38)
   have bM:=G.trans aI hal
   have fG:=hid (bK.out.G hal)
   have eO:=hid (bX.out.G hal)
   have ai:aM.heap.size≠p1:=by have:=bK.out.2.1;omega
   have au:aM.heap.size≠p2:=by have:=bX.out.2.1;omega
   generalize aM.heap.size=p0 at *
   generalize aM.alloc (.cells #[.bool false,.slice none 0 0] 38)=dm at *
   have jB:=hid hn
   have ae:Hid (p1≠p0):=ai.symm
   have aa:Hid (p0≠p1):=ai
   have ak:Hid (p2≠p0):=au.symm
   have aj:Hid (p0≠p2):=au
   clear hn hal aI bK bX ai au
   refine q00 (l':=#[true,true,true,true,true,true,true,true,true,true,true,true,true,true,false,false,false]) (by kernel_rfl) ?_
   revert ak
   revert ae
   revert af
   revert aj
   revert ag
   revert aa
   revert eO
   revert fG
   revert jB
   revert bM
   revert p2
   revert p1
   revert p0
   revert dm
   exact fQ.out
  ·skip
   intro K hK
   go_simp
   have eH:Hid _:=q0W aM p2 0 b2 0 bx 2 0 ya xb KB (by omega) nO.out mr.out bX.out.2.1 (G.lt aI hby) (G.lt aI hbx) bX.out.2.2 (IntIs.G uH.out hby aI) (IntIs.G Bq.out hbx aI)
   go_wp2_with (go_at_call 49;refine Calls.mono (P:=Tryz.prog) eH.out ?_;intro e dm hx;obtain⟨rfl,bM,hl,-,hkp⟩:=SetTo.step aI bX.out hx)
   have eO:=hid hl
   have fG:=hid (hkp _ _ af.out bK.out)
   refine hK.out _ _ (Or.inr bM) ?_
   clear hK K hx hl hkp eH aI bK bX
   refine q03 (i:=0) (by kernel_rfl) rfl ?_
   intro K hK
   go_simp
   refine hK.out _ _ (Or.inr (bM.alloc _)) ?_
   clear hK K
   have hn:=NI.new bM 38
   have hal:=(G.refl dm).alloc (.cells #[.bool false,.slice none 0 0] 38)
   have kg:=G.trans bM hal
   have jC:=hid (fG.out.G hal)
   have bZ:=hid (eO.out.G hal)
   have ai:dm.heap.size≠p1:=by have:=fG.out.2.1;omega
   have au:dm.heap.size≠p2:=by have:=eO.out.2.1;omega
   generalize dm.heap.size=p0 at *
   generalize dm.alloc (.cells #[.bool false,.slice none 0 0] 38)=jK at *
   have jD:=hid hn
   have ae:Hid (p1≠p0):=ai.symm
   have aa:Hid (p0≠p1):=ai
   have ak:Hid (p2≠p0):=au.symm
   have aj:Hid (p0≠p2):=au
   clear hn hal bM fG eO ai au
   refine q00 (l':=#[true,true,true,true,true,true,true,true,true,true,true,true,true,true,true,false,false]) (by kernel_rfl) ?_
   revert ak
   revert ae
   revert af
   revert aj
   revert ag
   revert aa
   revert bZ
   revert jC
   revert jD
   revert kg
   revert p2
   revert p1
   revert p0
   revert jK
   exact iy.out
  refine Later.mk ?_
  intro aM p0 p1 aI dE bK aa ae
  refine q03 (i:=8) (by kernel_rfl) rfl ?_
  intro K hK
  go_simp
  refine hK.out _ _ (Or.inr (aI.alloc _)) ?_
  clear hK K
  have hn:=NI.new aI 38
  have hal:=(G.refl aM).alloc (.cells #[.bool false,.slice none 0 0] 38)
  have bM:=G.trans aI hal
  have jB:=hid (dE.out.G hal)
  have fG:=hid (bK.out.G hal)
  have av:aM.heap.size≠p0:=by have:=dE.out.2.1;omega
  have ai:aM.heap.size≠p1:=by have:=bK.out.2.1;omega
  generalize aM.heap.size=p2 at *
  generalize aM.alloc (.cells #[.bool false,.slice none 0 0] 38)=dm at *
  have eO:=hid hn
  have aj:Hid (p0≠p2):=av.symm
  have ak:Hid (p2≠p0):=av
  have af:Hid (p1≠p2):=ai.symm
  have ag:Hid (p2≠p1):=ai
  clear hn hal aI dE bK av ai
  refine q00 (l':=#[true,true,true,true,true,true,true,true,true,true,true,true,true,true,false,false,false]) (by kernel_rfl) ?_
  revert ak
  revert ae
  revert af
  revert aj
  revert ag
  revert aa
  revert eO
  revert fG
  revert jB
  revert bM
  revert p2
  revert p1
  revert p0
  revert dm
  exact fQ.out
  refine Later.mk ?_
  intro aM p0 p1 p2 aI dE bK bX aa ag aj af ae ak
  refine q03 (i:=13) (by kernel_rfl) rfl ?_
  intro K hK
  go_simp
  go_wp2_with (go_at_call 50;refine Calls.mono (P:=Tryz.prog) (q1y aM bx xa xb jb (qi.out.G hbx aI)) ?_;rintro e dm ⟨rfl,hg⟩)
  refine hK.out _ _ (Or.inr (G.trans aI hg)) ?_
  clear hK K
  have bM:=G.trans aI hg
  have jB:=hid (dE.out.G hg)
  have fG:=hid (bK.out.G hg)
  have eO:=hid (bX.out.G hg)
  clear hg aI dE bK bX
  refine q00 (l':=#[true,true,true,true,true,true,true,true,true,true,true,true,true,true,false,false,false]) (by kernel_rfl) ?_
  revert ak
  revert ae
  revert af
  revert aj
  revert ag
  revert aa
  revert eO
  revert fG
  revert jB
  revert bM
  revert p2
  revert p1
  revert p0
  revert dm
  exact fQ.out
  refine Later.mk ?_
  intro dm p0 p1 p2 bM jB fG eO aa ag aj af ae ak
  refine q03 (i:=14) (by kernel_rfl) rfl ?_
  intro K hK
  go_simp
  have eH:Hid _:=q0W dm p2 0 b2 0 bx 2 0 ya xb KB (by omega) nO.out mr.out eO.out.2.1 (G.lt bM hby) (G.lt bM hbx) eO.out.2.2 (IntIs.G uH.out hby bM) (IntIs.G Bq.out hbx bM)
  go_wp2_with (go_at_call 49;refine Calls.mono (P:=Tryz.prog) eH.out ?_;intro e jK hx;obtain⟨rfl,kg,hl,-,hkp⟩:=SetTo.step bM eO.out hx)
  have bZ:=hid hl
  have jD:=hid (hkp _ _ aj.out jB.out)
  have jC:=hid (hkp _ _ af.out fG.out)
  refine hK.out _ _ (Or.inr kg) ?_
  clear hK K hx hl hkp eH bM jB fG eO
  refine q00 (l':=#[true,true,true,true,true,true,true,true,true,true,true,true,true,true,true,false,false]) (by kernel_rfl) ?_
  revert ak
  revert ae
  revert af
  revert aj
  revert ag
  revert aa
  revert bZ
  revert jC
  revert jD
  revert kg
  revert p2
  revert p1
  revert p0
  revert jK
  exact iy.out
  refine Later.mk ?_
  intro jK p0 p1 p2 kg jD jC bZ aa ag aj af ae ak
  refine q03 (i:=15) (by kernel_rfl) rfl ?_
  intro K hK
  go_simp
  have eH:Hid _:=qbt jK p0 0 p1 0 p2 0 0 (xa*(yb:Int)) (ya*(xb:Int)) (2*KB) (by omega) CF.out gY.out jD.out.2.1 jC.out.2.1 bZ.out.2.1 jD.out.2.2 jC.out.2.2 bZ.out.2.2
  go_wp2_with (go_at_call 67;refine Calls.mono (P:=Tryz.prog) eH.out ?_;intro e bJ hx;obtain⟨rfl,oL,hl,-,hkp⟩:=SetTo.step kg jD.out hx)
  have oM:=hid hl
  have rM:=hid (hkp _ _ ae.out jC.out)
  have rO:=hid (hkp _ _ ak.out bZ.out)
  refine hK.out _ _ (Or.inl (by decide)) ?_
  clear hK K hx hl hkp eH kg jD jC bZ
  refine q03 (i:=16) (by kernel_rfl) rfl ?_
  intro K hK
  go_simp
  refine hK.out _ _ (Or.inl (by decide)) ?_
  clear hK K
  refine q0j (by kernel_rfl) ?_ _
  revert ak
  revert ae
  revert af
  revert aj
  revert ag
  revert aa
  revert rO
  revert rM
  revert oM
  revert oL
  revert p2
  revert p1
  revert p0
  revert bJ
  exact LX.out
 ·skip
  refine Later.mk ?_
  intro bJ p0 p1 p2 oL oM rM rO aa ag aj af ae ak
  clear ae ak aa ag aj af
  have HS:=oM.out
  have hG:=oL
  clear oM rM rO oL
  have xu:Hid (NI w bJ p0 (xa*(yb:Int)-ya*(xb:Int))):=HS
  clear HS
  go_wp2_with fail
  have hn0:=NI.new hG 38
  have hal:=(G.refl bJ).alloc (.cells #[.bool false,.slice none 0 0] 38)
  have hG1:=G.trans hG hal
  have hs1:=xu.out.G hal
  have hne:p0≠bJ.heap.size:=by have:=xu.out.2.1;omega
  generalize bJ.heap.size=pd at *
  generalize bJ.alloc (.cells #[.bool false,.slice none 0 0] 38)=v1 at *
  have iV:Hid (NI w v1 pd 0):=hn0
  have tK:Hid (NI w v1 p0 (xa*(yb:Int)-ya*(xb:Int))):=hs1
  clear hn0 hal hs1 hG xu
  refine Calls.mono (P:=Tryz.prog) (q1y v1 bx xa xb jb (qi.out.G hbx hG1)) ?_
  rintro e v2 ⟨rfl,hg2⟩
  have hG2:=G.trans hG1 hg2
  have kQ:Hid (NI w v2 pd 0):=iV.out.G hg2
  have HS2:Hid (NI w v2 p0 (xa*(yb:Int)-ya*(xb:Int))):=tK.out.G hg2
  clear hG1 hg2 iV tK
  go_wp2_with fail
  refine Calls.mono (P:=Tryz.prog) (q1y v2 b2 ya yb eZ (kV.out.G hby hG2)) ?_
  rintro e v3 ⟨rfl,hg3⟩
  have hG3:=G.trans hG2 hg3
  have nZ:Hid (NI w v3 pd 0):=kQ.out.G hg3
  have qL:Hid (NI w v3 p0 (xa*(yb:Int)-ya*(xb:Int))):=HS2.out.G hg3
  clear hG2 hg3 kQ HS2
  have HM:Hid _:=q0W v3 pd 0 bx 2 b2 2 0 xb yb KB (by omega) mr.out jL.out nZ.out.2.1 (G.lt hG3 hbx) (G.lt hG3 hby) nZ.out.2.2 (IntIs.G Bq.out hbx hG3) (IntIs.G zD.out hby hG3)
  go_wp2_with fail
  refine Calls.mono (P:=Tryz.prog) HM.out ?_
  intro e v4 hs
  obtain⟨rfl,hG4,jQ,-,hkp⟩:=SetTo.step hG3 nZ.out hs
  have xL:Hid (NI w v4 p0 (xa*(yb:Int)-ya*(xb:Int))):=hkp p0 _ hne qL.out
  rw[show (xb:Int)*yb=((xb*yb:Nat):Int) from by push_cast;rfl] at jQ
  have C9:Hid (NI w v4 pd ((xb*yb:Nat):Int)):=jQ
  clear hs hkp jQ HM nZ qL hG3 hne
  have HF:Hid _:=q17 v4 bz p0 0 pd 0 s1 s2 (xa*(yb:Int)-ya*(xb:Int)) (xb*yb) (2*KB+1) (by omega) Mq.out HD2.out HD0.out (G.lt hG4 hbz) xL.out.2.1 C9.out.2.1 (C8.out.G hbz hG4) xL.out.2.2 C9.out.2.2
  go_wp2_with fail
  refine Calls.mono (P:=Tryz.prog) HF.out ?_
  intro e v5 hs
  obtain⟨rfl,k1,k2⟩:=NormTo.after hG4 hs
  have lZ:Hid _:=k2
  clear hs k2 HF xL C9
  go_wp2_with fail
  go_ret
  exact⟨rfl,k1,lZ.out⟩
/-- den: of a new Rat it is a new 1. -/
theorem qcg (w:World) (b:Nat) (xb:Nat) (hxb:xb=1) (h:RatIs w b 0 0):
  Calls Tryz.prog 50 #[.pointer (some ⟨b,0,none⟩)] w (RetI w (xb:Int)):=by
 obtain⟨-,n,v,a,⟨c1,c2,-,-⟩,⟨l,hl,hcl,hlv⟩,h1,-⟩:=h
 have ha:=q0O h1
 obtain⟨p,c,rfl,-,-⟩:=q0p hl
 have hl0:l.length=0:=by
  have h0:val l=0:=by rw[hlv];omega
  rw[(q0X hcl).1 h0]
  rfl
 rw[hl0] at c2
 have HN:Hid _:=q2m w (xb:Int) ⟨by omega,by omega⟩
 rw[hxb] at HN ⊢
 clear hl hcl hlv h1 ha hl0
 go_enter Tryz.func50,Tryz.ntmps50
 go_wp2_with fail
 refine Calls.mono (P:=Tryz.prog) HN.out ?_
 rintro e w2 ⟨p,rfl,k1,k2,k3,k4⟩
 have HK:Hid _:=k4
 clear k4 HN
 go_wp2_with fail
 go_ret
 exact⟨p,rfl,k1,k2,k3,HK.out⟩
/-- A Rat, laid or new (then it is 0). -/
def RatV (w:World) (b:Nat) (xa:Int) (xb:Nat):Prop:=RatIs w b xa (xb:Int)∨(xa=0∧xb=1∧RatIs w b 0 0)
theorem RatV.G {w w':World} {b:Nat} {xa:Int} {xb:Nat} (h:RatV w b xa xb) (hb:b<w.heap.size) (g:G w w'):RatV w' b xa xb:=by
 rcases h with h|⟨h1,h2,h⟩
 ·exact Or.inl (RatIs.G h hb g)
 ·exact Or.inr ⟨h1,h2,RatIs.G h hb g⟩
theorem RatV.num {w:World} {b:Nat} {xa:Int} {xb:Nat} (h:RatV w b xa xb):IntIs w b 0 xa:=by
 rcases h with h|⟨h1,-,h⟩
 ·exact h.1
 ·rw[h1];exact h.1
/-- A lower part: in the Rat itself, or new. -/
def DI (w0 w:World) (p o:Nat) (s:Int):Prop:=(p<w0.heap.size∧IntIs w0 p o s)∨(o=0∧NI w0 w p s)
theorem DI.G {w0 w w':World} {p o:Nat} {s:Int} (h:DI w0 w p o s) (g:Go.Proofs.YtljkfjjchkehaaaGreatDoor.G w w'):DI w0 w' p o s:=by
 rcases h with h|⟨h1,h2⟩
 ·exact Or.inl h
 ·exact Or.inr ⟨h1,h2.G g⟩
theorem DI.is {w0 w:World} {p o:Nat} {s:Int} (h:DI w0 w p o s) (g:Go.Proofs.YtljkfjjchkehaaaGreatDoor.G w0 w):p<w.heap.size∧IntIs w p o s:=by
 rcases h with ⟨h1,h2⟩|⟨rfl,h2⟩
 ·exact⟨G.lt g h1,IntIs.G h2 h1 g⟩
 ·exact h2.2
theorem DI.keep {w0 w w':World} {p o:Nat} {s:Int} (h:DI w0 w p o s) (k:NI w0 w p s→NI w0 w' p s):DI w0 w' p o s:=by
 rcases h with h|⟨h1,h2⟩
 ·exact Or.inl h
 ·exact Or.inr ⟨h1,k h2⟩
theorem q1d (w0 w:World) (g:G w0 w) (b:Nat) (xa:Int) (xb:Nat) (hxb:0<xb) (hb:b<w0.heap.size) (h:RatV w0 b xa xb):
  Calls Tryz.prog 50 #[.pointer (some ⟨b,0,none⟩)] w fun e w'=>∃ p o,e= .returned (.pointer (some ⟨p,o,none⟩))∧G w w'∧DI w0 w' p o (xb:Int)∧(p<w0.heap.size∨w.heap.size≤p):=by
 rcases h with h|⟨-,h2,h⟩
 ·refine Calls.mono (P:=Tryz.prog) (q1y w b xa xb (by omega) (h.G hb g)) ?_
  rintro e w' ⟨rfl,g'⟩
  exact⟨b,2,rfl,g',Or.inl ⟨hb,h.2⟩,Or.inl hb⟩
 ·refine Calls.mono (P:=Tryz.prog) (qcg w b xb h2 (h.G hb g)) ?_
  rintro e w' ⟨p,rfl,g',k1,k2,k3⟩
  exact⟨p,0,rfl,g',Or.inr ⟨rfl,Nat.le_trans g.size k1,k2,k3⟩,Or.inr k1⟩
set_option maxRecDepth 10000 in
set_option maxHeartbeats 8000000 in
theorem qbK (w:World) (bz bx b2:Nat) (s1 s2 xa ya:Int) (xb yb:Nat) (KB:Nat) (hK:KB≤100000) (hx2:xa.natAbs<2^(32*KB)) (hy2:ya.natAbs<2^(32*KB)) (iZ:xb<2^(32*KB)) (jy:yb<2^(32*KB)) (hxb:0<xb) (hyb:0<yb)
  (hbz:bz<w.heap.size) (hbx:bx<w.heap.size) (hby:b2<w.heap.size) (hz:RatIs w bz s1 s2) (hx:RatV w bx xa xb) (hy:RatV w b2 ya yb):
  Calls Tryz.prog 29 #[.pointer (some ⟨bz,0,none⟩),.pointer (some ⟨bx,0,none⟩),.pointer (some ⟨b2,0,none⟩)] w (NormTo w bz (Int.tdiv (xa*(yb:Int)+ya*(xb:Int)) (Nat.gcd (xa*(yb:Int)+ya*(xb:Int)).natAbs (xb*yb):Nat)) (xb*yb/Nat.gcd (xa*(yb:Int)+ya*(xb:Int)).natAbs (xb*yb))):=by
 have jZ:Hid (xa.natAbs<2^(32*KB)):=hx2
 have nO:Hid (ya.natAbs<2^(32*KB)):=hy2
 have mr:Hid ((xb:Int).natAbs<2^(32*KB)):=by show (xb:Int).natAbs<2^(32*KB);rw[Int.natAbs_natCast];exact iZ
 have jL:Hid ((yb:Int).natAbs<2^(32*KB)):=by show (yb:Int).natAbs<2^(32*KB);rw[Int.natAbs_natCast];exact jy
 have HX0:Hid (IntIs w bx 0 xa):=hx.num
 have uH:Hid (IntIs w b2 0 ya):=hy.num
 have qi:Hid (RatV w bx xa xb):=hx
 have kV:Hid (RatV w b2 ya yb):=hy
 have C8:Hid (RatIs w bz s1 s2):=hz
 have jb:0<xb:=hxb
 have eZ:0<yb:=hyb
 have yE:32*(2*KB)=32*KB+32*KB:=by omega
 have hn1:(xa*(yb:Int)).natAbs<2^(32*(2*KB)):=by
  rw[Int.natAbs_mul,Int.natAbs_natCast,yE,Nat.pow_add]
  exact Nat.mul_lt_mul'' hx2 jy
 have hn2:(ya*(xb:Int)).natAbs<2^(32*(2*KB)):=by
  rw[Int.natAbs_mul,Int.natAbs_natCast,yE,Nat.pow_add]
  exact Nat.mul_lt_mul'' hy2 iZ
 have hd2:xb*yb<2^(32*(2*KB)):=by
  rw[yE,Nat.pow_add]
  exact Nat.mul_lt_mul'' iZ jy
 have hup:2^(32*(2*KB))*2≤2^(32*(2*KB+1)):=by rw[← Nat.pow_succ];exact Nat.pow_le_pow_right (by omega) (by omega)
 have CF:Hid ((xa*(yb:Int)).natAbs<2^(32*(2*KB))):=hn1
 have gY:Hid ((ya*(xb:Int)).natAbs<2^(32*(2*KB))):=hn2
 have Mq:Hid ((xa*(yb:Int)+ya*(xb:Int)).natAbs<2^(32*(2*KB+1))):=by
  show (xa*(yb:Int)+ya*(xb:Int)).natAbs<2^(32*(2*KB+1))
  have:=Int.natAbs_add_le (xa*(yb:Int)) (ya*(xb:Int))
  omega
 have HD2:Hid (xb*yb<2^(32*(2*KB+1))):=by show xb*yb<2^(32*(2*KB+1));omega
 have HD0:Hid (0<xb*yb):=Nat.mul_pos hxb hyb
 clear hx hy hz hx2 hy2 iZ jy hxb hyb yE hn1 hn2 hd2 hup
 go_enter Tryz.func29,Tryz.ntmps29
 go_wp2_with fail
 apply share
 ·intro LX
  refine q0L 15 (G w) (by kernel_rfl) (by first|exact(G.refl _).drew|exact G.drew (by assumption)) ?_
  intro di
  refine q02 2 (v:= ?_) rfl (by kernel_rfl) (fun _ _ _ h=>h) rfl ?_ ‹_› ?_
  rotate_left
  ·intro wq hwq
   first|(go_simp;done)|(go_simp;with_reducible rfl)
  try simp only[aput,List.set]
  refine q02 3 (v:= ?_) rfl (by kernel_rfl) (fun _ _ _ h=>h) rfl ?_ ‹_› ?_
  rotate_left
  ·intro wq hwq
   first|(go_simp;done)|(go_simp;with_reducible rfl)
  try simp only[aput,List.set]
  refine q02 4 (v:= ?_) rfl (by kernel_rfl) (fun _ _ _ h=>h) rfl ?_ ‹_› ?_
  rotate_left
  ·intro wq hwq
   first|(go_simp;done)|(go_simp;with_reducible rfl)
  try simp only[aput,List.set]
  refine q02 5 (v:= ?_) rfl (by kernel_rfl) (fun _ _ _ h=>h) rfl ?_ ‹_› ?_
  rotate_left
  ·intro wq hwq
   first|(go_simp;done)|(go_simp;with_reducible rfl)
  try simp only[aput,List.set]
  refine q02 9 (v:= ?_) rfl (by kernel_rfl) (fun _ _ _ h=>h) rfl ?_ ‹_› ?_
  rotate_left
  ·intro wq hwq
   first|(go_simp;done)|(go_simp;with_reducible rfl)
  try simp only[aput,List.set]
  refine q02 10 (v:= ?_) rfl (by kernel_rfl) (fun _ _ _ h=>h) rfl ?_ ‹_› ?_
  rotate_left
  ·intro wq hwq
   first|(go_simp;done)|(go_simp;with_reducible rfl)
  try simp only[aput,List.set]
  refine q02 11 (v:= ?_) rfl (by kernel_rfl) (fun _ _ _ h=>h) rfl ?_ ‹_› ?_
  rotate_left
  ·intro wq hwq
   first|(go_simp;done)|(go_simp;with_reducible rfl)
  try simp only[aput,List.set]
  refine q02 12 (v:= ?_) rfl (by kernel_rfl) (fun _ _ _ h=>h) rfl ?_ ‹_› ?_
  rotate_left
  ·intro wq hwq
   first|(go_simp;done)|(go_simp;with_reducible rfl)
  try simp only[aput,List.set]
  show q0E _ _ _ _ _ _ _ _ _ w.drew
  have hS5:=di
  generalize w.drew=w5 at *
  clear di
  apply share
  intro iy
  apply share
  intro fQ
  apply share
  intro iM
  apply share
  intro kL
  apply share
  intro eG
  apply share
  intro iN
  apply share
  intro mD
  apply share
  intro fT
  apply share
  intro mE
  apply share
  intro mF
  apply share
  intro mG
  apply share
  intro jA
  apply share
  intro wF
  apply share
  intro wG
  apply share
  intro wH
  apply share
  intro mH
  apply share
  intro qj
  apply share
  intro ql
  refine q3c (i:=0) (j:=1) (l:=6) (m:=8) (by kernel_rfl) rfl rfl rfl rfl ?_ ?_ ?_ ?_
  ·skip
   intro K hK
   go_simp
   refine hK.out _ _ (Or.inr (hS5.alloc _)) ?_
   clear hK K
   have hn:=NI.new hS5 38
   have hal:=(G.refl w5).alloc (.cells #[.bool false,.slice none 0 0] 38)
   have bE:=G.trans hS5 hal
   generalize w5.heap.size=p0 at *
   generalize w5.alloc (.cells #[.bool false,.slice none 0 0] 38)=w6 at *
   have oJ:=hid hn
   clear hn hal
   refine q0k (i:=1) (j:=6) (l:=8) (by kernel_rfl) rfl rfl rfl ?_ ?_ ?_
   ·skip
    intro K hK
    go_simp
    refine hK.out _ _ (Or.inr (bE.alloc _)) ?_
    clear hK K
    have hn:=NI.new bE 38
    have hal:=(G.refl w6).alloc (.cells #[.bool false,.slice none 0 0] 38)
    have aF:=G.trans bE hal
    have dN:=hid (oJ.out.G hal)
    have av:w6.heap.size≠p0:=by have:=oJ.out.2.1;omega
    generalize w6.heap.size=p1 at *
    generalize w6.alloc (.cells #[.bool false,.slice none 0 0] 38)=w7 at *
    have dC:=hid hn
    have aa:Hid (p0≠p1):=av.symm
    have ae:Hid (p1≠p0):=av
    clear hn hal bE oJ av
    refine q00 (l':=#[true,true,true,true,true,true,false,false,false,true,true,true,true,false,false,false,false]) (by kernel_rfl) ?_
    revert ae
    revert aa
    revert dC
    revert dN
    revert aF
    revert p1
    revert p0
    revert w7
    exact wF.out
   ·skip
    intro K hK
    go_simp
    go_wp2_with (go_at_call 50;refine Calls.mono (P:=Tryz.prog) (q1d w w6 bE b2 ya yb eZ hby kV.out) ?_;intro e w7 hx;obtain⟨p4,o4,rfl,hg,h72,ko⟩:=hx)
    refine hK.out _ _ (Or.inr (G.trans bE hg)) ?_
    clear hK K
    have aF:=G.trans bE hg
    have HD7:=hid h72
    have av:p4≠p0:=by have h1:=oJ.out.1;have h2:=oJ.out.2.1;omega
    have dN:=hid (oJ.out.G hg)
    have aB:Hid (p4≠p0):=av
    clear hg h72 ko bE oJ av
    refine q00 (l':=#[true,false,true,true,true,true,true,false,false,true,true,true,true,false,false,false,false]) (by kernel_rfl) ?_
    revert aB
    revert HD7
    revert dN
    revert aF
    revert o4
    revert p4
    revert p0
    revert w7
    exact wH.out
   ·skip
    intro K hK
    go_simp
    refine hK.out _ _ (Or.inr (bE.alloc _)) ?_
    clear hK K
    have hn:=NI.new bE 38
    have hal:=(G.refl w6).alloc (.cells #[.bool false,.slice none 0 0] 38)
    have aF:=G.trans bE hal
    have dN:=hid (oJ.out.G hal)
    have av:w6.heap.size≠p0:=by have:=oJ.out.2.1;omega
    generalize w6.heap.size=p2 at *
    generalize w6.alloc (.cells #[.bool false,.slice none 0 0] 38)=w7 at *
    have dO:=hid hn
    have aj:Hid (p0≠p2):=av.symm
    have ak:Hid (p2≠p0):=av
    clear hn hal bE oJ av
    refine q00 (l':=#[true,false,true,true,true,true,false,false,true,true,true,true,true,false,false,false,false]) (by kernel_rfl) ?_
    revert ak
    revert aj
    revert dO
    revert dN
    revert aF
    revert p2
    revert p0
    revert w7
    exact wG.out
  ·skip
   intro K hK
   go_simp
   refine hK.out _ _ (Or.inr (hS5.alloc _)) ?_
   clear hK K
   have hn:=NI.new hS5 38
   have hal:=(G.refl w5).alloc (.cells #[.bool false,.slice none 0 0] 38)
   have bE:=G.trans hS5 hal
   generalize w5.heap.size=p1 at *
   generalize w5.alloc (.cells #[.bool false,.slice none 0 0] 38)=w6 at *
   have ni:=hid hn
   clear hn hal
   refine q0k (i:=0) (j:=6) (l:=8) (by kernel_rfl) rfl rfl rfl ?_ ?_ ?_
   ·skip
    intro K hK
    go_simp
    refine hK.out _ _ (Or.inr (bE.alloc _)) ?_
    clear hK K
    have hn:=NI.new bE 38
    have hal:=(G.refl w6).alloc (.cells #[.bool false,.slice none 0 0] 38)
    have aF:=G.trans bE hal
    have dC:=hid (ni.out.G hal)
    have ai:w6.heap.size≠p1:=by have:=ni.out.2.1;omega
    generalize w6.heap.size=p0 at *
    generalize w6.alloc (.cells #[.bool false,.slice none 0 0] 38)=w7 at *
    have dN:=hid hn
    have ae:Hid (p1≠p0):=ai.symm
    have aa:Hid (p0≠p1):=ai
    clear hn hal bE ni ai
    refine q00 (l':=#[true,true,true,true,true,true,false,false,false,true,true,true,true,false,false,false,false]) (by kernel_rfl) ?_
    revert ae
    revert aa
    revert dC
    revert dN
    revert aF
    revert p1
    revert p0
    revert w7
    exact wF.out
   ·skip
    intro K hK
    go_simp
    go_wp2_with (go_at_call 50;refine Calls.mono (P:=Tryz.prog) (q1d w w6 bE b2 ya yb eZ hby kV.out) ?_;intro e w7 hx;obtain⟨p4,o4,rfl,hg,h72,ko⟩:=hx)
    refine hK.out _ _ (Or.inr (G.trans bE hg)) ?_
    clear hK K
    have aF:=G.trans bE hg
    have HD7:=hid h72
    have ai:p4≠p1:=by have h1:=ni.out.1;have h2:=ni.out.2.1;omega
    have dC:=hid (ni.out.G hg)
    have az:Hid (p4≠p1):=ai
    clear hg h72 ko bE ni ai
    refine q00 (l':=#[false,true,true,true,true,true,true,false,false,true,true,true,true,false,false,false,false]) (by kernel_rfl) ?_
    revert az
    revert HD7
    revert dC
    revert aF
    revert o4
    revert p4
    revert p1
    revert w7
    exact qj.out
   ·skip
    intro K hK
    go_simp
    refine hK.out _ _ (Or.inr (bE.alloc _)) ?_
    clear hK K
    have hn:=NI.new bE 38
    have hal:=(G.refl w6).alloc (.cells #[.bool false,.slice none 0 0] 38)
    have aF:=G.trans bE hal
    have dC:=hid (ni.out.G hal)
    have ai:w6.heap.size≠p1:=by have:=ni.out.2.1;omega
    generalize w6.heap.size=p2 at *
    generalize w6.alloc (.cells #[.bool false,.slice none 0 0] 38)=w7 at *
    have dO:=hid hn
    have af:Hid (p1≠p2):=ai.symm
    have ag:Hid (p2≠p1):=ai
    clear hn hal bE ni ai
    refine q00 (l':=#[false,true,true,true,true,true,false,false,true,true,true,true,true,false,false,false,false]) (by kernel_rfl) ?_
    revert af
    revert ag
    revert dO
    revert dC
    revert aF
    revert p2
    revert p1
    revert w7
    exact mH.out
  ·skip
   intro K hK
   go_simp
   go_wp2_with (go_at_call 50;refine Calls.mono (P:=Tryz.prog) (q1d w w5 hS5 b2 ya yb eZ hby kV.out) ?_;intro e w6 hx;obtain⟨p4,o4,rfl,hg,h72,ko⟩:=hx)
   refine hK.out _ _ (Or.inr (G.trans hS5 hg)) ?_
   clear hK K
   have bE:=G.trans hS5 hg
   have HD6:=hid h72
   clear hg h72 ko
   refine q0k (i:=0) (j:=1) (l:=8) (by kernel_rfl) rfl rfl rfl ?_ ?_ ?_
   ·skip
    intro K hK
    go_simp
    refine hK.out _ _ (Or.inr (bE.alloc _)) ?_
    clear hK K
    have hn:=NI.new bE 38
    have hal:=(G.refl w6).alloc (.cells #[.bool false,.slice none 0 0] 38)
    have aF:=G.trans bE hal
    have HD7:=hid (HD6.out.G hal)
    have aH:w6.heap.size≠p4:=by have:=(HD6.out.is bE).1;omega
    generalize w6.heap.size=p0 at *
    generalize w6.alloc (.cells #[.bool false,.slice none 0 0] 38)=w7 at *
    have dN:=hid hn
    have aB:Hid (p4≠p0):=aH.symm
    clear hn hal bE HD6 aH
    refine q00 (l':=#[true,false,true,true,true,true,true,false,false,true,true,true,true,false,false,false,false]) (by kernel_rfl) ?_
    revert aB
    revert HD7
    revert dN
    revert aF
    revert o4
    revert p4
    revert p0
    revert w7
    exact wH.out
   ·skip
    intro K hK
    go_simp
    refine hK.out _ _ (Or.inr (bE.alloc _)) ?_
    clear hK K
    have hn:=NI.new bE 38
    have hal:=(G.refl w6).alloc (.cells #[.bool false,.slice none 0 0] 38)
    have aF:=G.trans bE hal
    have HD7:=hid (HD6.out.G hal)
    have aH:w6.heap.size≠p4:=by have:=(HD6.out.is bE).1;omega
    generalize w6.heap.size=p1 at *
    generalize w6.alloc (.cells #[.bool false,.slice none 0 0] 38)=w7 at *
    have dC:=hid hn
    have az:Hid (p4≠p1):=aH.symm
    clear hn hal bE HD6 aH
    refine q00 (l':=#[false,true,true,true,true,true,true,false,false,true,true,true,true,false,false,false,false]) (by kernel_rfl) ?_
    revert az
    revert HD7
    revert dC
    revert aF
    revert o4
    revert p4
    revert p1
    revert w7
    exact qj.out
   ·skip
    intro K hK
    go_simp
    refine hK.out _ _ (Or.inr (bE.alloc _)) ?_
    clear hK K
    have hn:=NI.new bE 38
    have hal:=(G.refl w6).alloc (.cells #[.bool false,.slice none 0 0] 38)
    have aF:=G.trans bE hal
    have HD7:=hid (HD6.out.G hal)
    have aH:w6.heap.size≠p4:=by have:=(HD6.out.is bE).1;omega
    generalize w6.heap.size=p2 at *
    generalize w6.alloc (.cells #[.bool false,.slice none 0 0] 38)=w7 at *
    have dO:=hid hn
    have aC:Hid (p4≠p2):=aH.symm
    clear hn hal bE HD6 aH
    refine q00 (l':=#[false,false,true,true,true,true,true,false,true,true,true,true,true,false,false,false,false]) (by kernel_rfl) ?_
    revert aC
    revert dO
    revert HD7
    revert aF
    revert p2
    revert o4
    revert p4
    revert w7
    exact ql.out
  ·skip
   intro K hK
   go_simp
   refine hK.out _ _ (Or.inr (hS5.alloc _)) ?_
   clear hK K
   have hn:=NI.new hS5 38
   have hal:=(G.refl w5).alloc (.cells #[.bool false,.slice none 0 0] 38)
   have bE:=G.trans hS5 hal
   generalize w5.heap.size=p2 at *
   generalize w5.alloc (.cells #[.bool false,.slice none 0 0] 38)=w6 at *
   have oK:=hid hn
   clear hn hal
   refine q0k (i:=0) (j:=1) (l:=6) (by kernel_rfl) rfl rfl rfl ?_ ?_ ?_
   ·skip
    intro K hK
    go_simp
    refine hK.out _ _ (Or.inr (bE.alloc _)) ?_
    clear hK K
    have hn:=NI.new bE 38
    have hal:=(G.refl w6).alloc (.cells #[.bool false,.slice none 0 0] 38)
    have aF:=G.trans bE hal
    have dO:=hid (oK.out.G hal)
    have au:w6.heap.size≠p2:=by have:=oK.out.2.1;omega
    generalize w6.heap.size=p0 at *
    generalize w6.alloc (.cells #[.bool false,.slice none 0 0] 38)=w7 at *
    have dN:=hid hn
    have ak:Hid (p2≠p0):=au.symm
    have aj:Hid (p0≠p2):=au
    clear hn hal bE oK au
    refine q00 (l':=#[true,false,true,true,true,true,false,false,true,true,true,true,true,false,false,false,false]) (by kernel_rfl) ?_
    revert ak
    revert aj
    revert dO
    revert dN
    revert aF
    revert p2
    revert p0
    revert w7
    exact wG.out
   ·skip
    intro K hK
    go_simp
    refine hK.out _ _ (Or.inr (bE.alloc _)) ?_
    clear hK K
    have hn:=NI.new bE 38
    have hal:=(G.refl w6).alloc (.cells #[.bool false,.slice none 0 0] 38)
    have aF:=G.trans bE hal
    have dO:=hid (oK.out.G hal)
    have au:w6.heap.size≠p2:=by have:=oK.out.2.1;omega
    generalize w6.heap.size=p1 at *
    generalize w6.alloc (.cells #[.bool false,.slice none 0 0] 38)=w7 at *
    have dC:=hid hn
    have ag:Hid (p2≠p1):=au.symm
    have af:Hid (p1≠p2):=au
    clear hn hal bE oK au
    refine q00 (l':=#[false,true,true,true,true,true,false,false,true,true,true,true,true,false,false,false,false]) (by kernel_rfl) ?_
    revert af
    revert ag
    revert dO
    revert dC
    revert aF
    revert p2
    revert p1
    revert w7
    exact mH.out
   ·skip
    intro K hK
    go_simp
    go_wp2_with (go_at_call 50;refine Calls.mono (P:=Tryz.prog) (q1d w w6 bE b2 ya yb eZ hby kV.out) ?_;intro e w7 hx;obtain⟨p4,o4,rfl,hg,h72,ko⟩:=hx)
    refine hK.out _ _ (Or.inr (G.trans bE hg)) ?_
    clear hK K
    have aF:=G.trans bE hg
    have HD7:=hid h72
    have au:p4≠p2:=by have h1:=oK.out.1;have h2:=oK.out.2.1;omega
    have dO:=hid (oK.out.G hg)
    have aC:Hid (p4≠p2):=au
    clear hg h72 ko bE oK au
    refine q00 (l':=#[false,false,true,true,true,true,true,false,true,true,true,true,true,false,false,false,false]) (by kernel_rfl) ?_
    revert aC
    revert dO
    revert HD7
    revert aF
    revert p2
    revert o4
    revert p4
    revert w7
    exact ql.out
  refine Later.mk ?_
  intro w7 p4 o4 p2 aF HD7 dO aC
  refine q07 (i:=0) (j:=1) (by kernel_rfl) rfl rfl ?_ ?_
  ·skip
   intro K hK
   go_simp
   refine hK.out _ _ (Or.inr (aF.alloc _)) ?_
   clear hK K
   have hn:=NI.new aF 38
   have hal:=(G.refl w7).alloc (.cells #[.bool false,.slice none 0 0] 38)
   have aL:=G.trans aF hal
   have eF:=hid (HD7.out.G hal)
   have dV:=hid (dO.out.G hal)
   have aH:w7.heap.size≠p4:=by have:=(HD7.out.is aF).1;omega
   have au:w7.heap.size≠p2:=by have:=dO.out.2.1;omega
   generalize w7.heap.size=p0 at *
   generalize w7.alloc (.cells #[.bool false,.slice none 0 0] 38)=w8 at *
   have dW:=hid hn
   have aB:Hid (p4≠p0):=aH.symm
   have ak:Hid (p2≠p0):=au.symm
   have aj:Hid (p0≠p2):=au
   clear hn hal aF HD7 dO aH au
   refine q00 (l':=#[true,false,true,true,true,true,true,false,true,true,true,true,true,false,false,false,false]) (by kernel_rfl) ?_
   revert ak
   revert aB
   revert aC
   revert aj
   revert dV
   revert eF
   revert dW
   revert aL
   revert p2
   revert o4
   revert p4
   revert p0
   revert w8
   exact mG.out
  ·skip
   intro K hK
   go_simp
   refine hK.out _ _ (Or.inr (aF.alloc _)) ?_
   clear hK K
   have hn:=NI.new aF 38
   have hal:=(G.refl w7).alloc (.cells #[.bool false,.slice none 0 0] 38)
   have aL:=G.trans aF hal
   have eF:=hid (HD7.out.G hal)
   have dV:=hid (dO.out.G hal)
   have aH:w7.heap.size≠p4:=by have:=(HD7.out.is aF).1;omega
   have au:w7.heap.size≠p2:=by have:=dO.out.2.1;omega
   generalize w7.heap.size=p1 at *
   generalize w7.alloc (.cells #[.bool false,.slice none 0 0] 38)=w8 at *
   have bO:=hid hn
   have az:Hid (p4≠p1):=aH.symm
   have ag:Hid (p2≠p1):=au.symm
   have af:Hid (p1≠p2):=au
   clear hn hal aF HD7 dO aH au
   refine q00 (l':=#[false,true,true,true,true,true,true,false,true,true,true,true,true,false,false,false,false]) (by kernel_rfl) ?_
   revert aC
   revert af
   revert ag
   revert az
   revert dV
   revert eF
   revert bO
   revert aL
   revert p2
   revert o4
   revert p4
   revert p1
   revert w8
   exact jA.out
  refine Later.mk ?_
  intro w7 p1 p4 o4 aF dC HD7 az
  refine q0k (i:=0) (j:=7) (l:=8) (by kernel_rfl) rfl rfl rfl ?_ ?_ ?_
  ·skip
   intro K hK
   go_simp
   refine hK.out _ _ (Or.inr (aF.alloc _)) ?_
   clear hK K
   have hn:=NI.new aF 38
   have hal:=(G.refl w7).alloc (.cells #[.bool false,.slice none 0 0] 38)
   have aL:=G.trans aF hal
   have bO:=hid (dC.out.G hal)
   have eF:=hid (HD7.out.G hal)
   have ai:w7.heap.size≠p1:=by have:=dC.out.2.1;omega
   have aH:w7.heap.size≠p4:=by have:=(HD7.out.is aF).1;omega
   generalize w7.heap.size=p0 at *
   generalize w7.alloc (.cells #[.bool false,.slice none 0 0] 38)=w8 at *
   have dW:=hid hn
   have ae:Hid (p1≠p0):=ai.symm
   have aa:Hid (p0≠p1):=ai
   have aB:Hid (p4≠p0):=aH.symm
   clear hn hal aF dC HD7 ai aH
   refine q00 (l':=#[true,true,true,true,true,true,true,false,false,true,true,true,true,false,false,false,false]) (by kernel_rfl) ?_
   revert aB
   revert ae
   revert az
   revert aa
   revert eF
   revert bO
   revert dW
   revert aL
   revert o4
   revert p4
   revert p1
   revert p0
   revert w8
   exact mF.out
  ·skip
   intro K hK
   go_simp
   have eH:Hid _:=q0W w7 p1 0 bx 0 p4 o4 0 xa yb KB (by omega) jZ.out jL.out dC.out.2.1 (G.lt aF hbx) (HD7.out.is aF).1 dC.out.2.2 (IntIs.G HX0.out hbx aF) (HD7.out.is aF).2
   go_wp2_with (go_at_call 49;refine Calls.mono (P:=Tryz.prog) eH.out ?_;intro e w8 hx;obtain⟨rfl,aL,hl,-,hkp⟩:=SetTo.step aF dC.out hx)
   have bO:=hid hl
   have eF:=hid (DI.keep HD7.out (hkp _ _ az.out))
   refine hK.out _ _ (Or.inr aL) ?_
   clear hK K hx hl hkp eH aF dC HD7
   refine q0k (i:=0) (j:=8) (l:=13) (by kernel_rfl) rfl rfl rfl ?_ ?_ ?_
   ·skip
    intro K hK
    go_simp
    refine hK.out _ _ (Or.inr (aL.alloc _)) ?_
    clear hK K
    have hn:=NI.new aL 38
    have hal:=(G.refl w8).alloc (.cells #[.bool false,.slice none 0 0] 38)
    have bF:=G.trans aL hal
    have bY:=hid (bO.out.G hal)
    have eQ:=hid (eF.out.G hal)
    have ai:w8.heap.size≠p1:=by have:=bO.out.2.1;omega
    have aH:w8.heap.size≠p4:=by have:=(eF.out.is aL).1;omega
    generalize w8.heap.size=p0 at *
    generalize w8.alloc (.cells #[.bool false,.slice none 0 0] 38)=w9 at *
    have ig:=hid hn
    have ae:Hid (p1≠p0):=ai.symm
    have aa:Hid (p0≠p1):=ai
    have aB:Hid (p4≠p0):=aH.symm
    clear hn hal aL bO eF ai aH
    refine q00 (l':=#[true,true,true,true,true,true,true,true,false,true,true,true,true,false,false,false,false]) (by kernel_rfl) ?_
    revert aB
    revert ae
    revert az
    revert aa
    revert eQ
    revert bY
    revert ig
    revert bF
    revert o4
    revert p4
    revert p1
    revert p0
    revert w9
    exact mD.out
   ·skip
    intro K hK
    go_simp
    refine hK.out _ _ (Or.inr (aL.alloc _)) ?_
    clear hK K
    have hn:=NI.new aL 38
    have hal:=(G.refl w8).alloc (.cells #[.bool false,.slice none 0 0] 38)
    have bF:=G.trans aL hal
    have bY:=hid (bO.out.G hal)
    have eQ:=hid (eF.out.G hal)
    have ai:w8.heap.size≠p1:=by have:=bO.out.2.1;omega
    have aH:w8.heap.size≠p4:=by have:=(eF.out.is aL).1;omega
    generalize w8.heap.size=p2 at *
    generalize w8.alloc (.cells #[.bool false,.slice none 0 0] 38)=w9 at *
    have ik:=hid hn
    have af:Hid (p1≠p2):=ai.symm
    have ag:Hid (p2≠p1):=ai
    have aC:Hid (p4≠p2):=aH.symm
    clear hn hal aL bO eF ai aH
    refine q00 (l':=#[false,true,true,true,true,true,true,true,true,true,true,true,true,false,false,false,false]) (by kernel_rfl) ?_
    revert aC
    revert af
    revert ag
    revert az
    revert ik
    revert eQ
    revert bY
    revert bF
    revert p2
    revert o4
    revert p4
    revert p1
    revert w9
    exact fT.out
   ·skip
    intro K hK
    go_simp
    go_wp2_with (go_at_call 50;refine Calls.mono (P:=Tryz.prog) (q1d w w8 aL bx xa xb jb hbx qi.out) ?_;intro e w9 hx;obtain⟨p3,o3,rfl,hg,h72,ko⟩:=hx)
    refine hK.out _ _ (Or.inr (G.trans aL hg)) ?_
    clear hK K
    have bF:=G.trans aL hg
    have xy:=hid h72
    have ai:p3≠p1:=by have h1:=bO.out.1;have h2:=bO.out.2.1;omega
    have bY:=hid (bO.out.G hg)
    have eQ:=hid (eF.out.G hg)
    have bN:Hid (p3≠p1):=ai
    clear hg h72 ko aL bO eF ai
    refine q07 (i:=0) (j:=8) (by kernel_rfl) rfl rfl ?_ ?_
    ·skip
     intro K hK
     go_simp
     refine hK.out _ _ (Or.inr (bF.alloc _)) ?_
     clear hK K
     have hn:=NI.new bF 38
     have hal:=(G.refl w9).alloc (.cells #[.bool false,.slice none 0 0] 38)
     have aI:=G.trans bF hal
     have bK:=hid (bY.out.G hal)
     have dF:=hid (eQ.out.G hal)
     have eT:=hid (xy.out.G hal)
     have ai:w9.heap.size≠p1:=by have:=bY.out.2.1;omega
     have aH:w9.heap.size≠p4:=by have:=(eQ.out.is bF).1;omega
     have fo:w9.heap.size≠p3:=by have:=(xy.out.is bF).1;omega
     generalize w9.heap.size=p0 at *
     generalize w9.alloc (.cells #[.bool false,.slice none 0 0] 38)=aM at *
     have dE:=hid hn
     have ae:Hid (p1≠p0):=ai.symm
     have aa:Hid (p0≠p1):=ai
     have aB:Hid (p4≠p0):=aH.symm
     have bQ:Hid (p3≠p0):=fo.symm
     clear hn hal bF bY eQ xy ai aH fo
     refine q00 (l':=#[true,true,true,true,true,true,true,true,false,true,true,true,true,true,false,false,false]) (by kernel_rfl) ?_
     revert bQ
     revert aB
     revert ae
     revert bN
     revert az
     revert aa
     revert eT
     revert dF
     revert bK
     revert dE
     revert aI
     revert o3
     revert p3
     revert o4
     revert p4
     revert p1
     revert p0
     revert aM
     exact kL.out
    ·skip
     intro K hK
     go_simp
     refine hK.out _ _ (Or.inr (bF.alloc _)) ?_
     clear hK K
     have hn:=NI.new bF 38
     have hal:=(G.refl w9).alloc (.cells #[.bool false,.slice none 0 0] 38)
     have aI:=G.trans bF hal
     have bK:=hid (bY.out.G hal)
     have dF:=hid (eQ.out.G hal)
     have eT:=hid (xy.out.G hal)
     have ai:w9.heap.size≠p1:=by have:=bY.out.2.1;omega
     have aH:w9.heap.size≠p4:=by have:=(eQ.out.is bF).1;omega
     have fo:w9.heap.size≠p3:=by have:=(xy.out.is bF).1;omega
     generalize w9.heap.size=p2 at *
     generalize w9.alloc (.cells #[.bool false,.slice none 0 0] 38)=aM at *
     have bX:=hid hn
     have af:Hid (p1≠p2):=ai.symm
     have ag:Hid (p2≠p1):=ai
     have aC:Hid (p4≠p2):=aH.symm
     have bR:Hid (p3≠p2):=fo.symm
     clear hn hal bF bY eQ xy ai aH fo
     refine q00 (l':=#[false,true,true,true,true,true,true,true,true,true,true,true,true,true,false,false,false]) (by kernel_rfl) ?_
     revert bR
     revert aC
     revert af
     revert bN
     revert ag
     revert az
     revert eT
     revert bX
     revert dF
     revert bK
     revert aI
     revert o3
     revert p3
     revert p2
     revert o4
     revert p4
     revert p1
     revert aM
     exact eG.out
  ·skip
   intro K hK
   go_simp
   refine hK.out _ _ (Or.inr (aF.alloc _)) ?_
   clear hK K
   have hn:=NI.new aF 38
   have hal:=(G.refl w7).alloc (.cells #[.bool false,.slice none 0 0] 38)
   have aL:=G.trans aF hal
   have bO:=hid (dC.out.G hal)
   have eF:=hid (HD7.out.G hal)
   have ai:w7.heap.size≠p1:=by have:=dC.out.2.1;omega
   have aH:w7.heap.size≠p4:=by have:=(HD7.out.is aF).1;omega
   generalize w7.heap.size=p2 at *
   generalize w7.alloc (.cells #[.bool false,.slice none 0 0] 38)=w8 at *
   have dV:=hid hn
   have af:Hid (p1≠p2):=ai.symm
   have ag:Hid (p2≠p1):=ai
   have aC:Hid (p4≠p2):=aH.symm
   clear hn hal aF dC HD7 ai aH
   refine q00 (l':=#[false,true,true,true,true,true,true,false,true,true,true,true,true,false,false,false,false]) (by kernel_rfl) ?_
   revert aC
   revert af
   revert ag
   revert az
   revert dV
   revert eF
   revert bO
   revert aL
   revert p2
   revert o4
   revert p4
   revert p1
   revert w8
   exact jA.out
  refine Later.mk ?_
  intro w7 p1 p2 aF dC dO ag af
  refine q07 (i:=0) (j:=6) (by kernel_rfl) rfl rfl ?_ ?_
  ·skip
   intro K hK
   go_simp
   refine hK.out _ _ (Or.inr (aF.alloc _)) ?_
   clear hK K
   have hn:=NI.new aF 38
   have hal:=(G.refl w7).alloc (.cells #[.bool false,.slice none 0 0] 38)
   have aL:=G.trans aF hal
   have bO:=hid (dC.out.G hal)
   have dV:=hid (dO.out.G hal)
   have ai:w7.heap.size≠p1:=by have:=dC.out.2.1;omega
   have au:w7.heap.size≠p2:=by have:=dO.out.2.1;omega
   generalize w7.heap.size=p0 at *
   generalize w7.alloc (.cells #[.bool false,.slice none 0 0] 38)=w8 at *
   have dW:=hid hn
   have ae:Hid (p1≠p0):=ai.symm
   have aa:Hid (p0≠p1):=ai
   have ak:Hid (p2≠p0):=au.symm
   have aj:Hid (p0≠p2):=au
   clear hn hal aF dC dO ai au
   refine q00 (l':=#[true,true,true,true,true,true,false,false,true,true,true,true,true,false,false,false,false]) (by kernel_rfl) ?_
   revert ak
   revert ae
   revert af
   revert aj
   revert ag
   revert aa
   revert dV
   revert bO
   revert dW
   revert aL
   revert p2
   revert p1
   revert p0
   revert w8
   exact mE.out
  ·skip
   intro K hK
   go_simp
   go_wp2_with (go_at_call 50;refine Calls.mono (P:=Tryz.prog) (q1d w w7 aF b2 ya yb eZ hby kV.out) ?_;intro e w8 hx;obtain⟨p4,o4,rfl,hg,h72,ko⟩:=hx)
   refine hK.out _ _ (Or.inr (G.trans aF hg)) ?_
   clear hK K
   have aL:=G.trans aF hg
   have eF:=hid h72
   have ai:p4≠p1:=by have h1:=dC.out.1;have h2:=dC.out.2.1;omega
   have au:p4≠p2:=by have h1:=dO.out.1;have h2:=dO.out.2.1;omega
   have bO:=hid (dC.out.G hg)
   have dV:=hid (dO.out.G hg)
   have az:Hid (p4≠p1):=ai
   have aC:Hid (p4≠p2):=au
   clear hg h72 ko aF dC dO ai au
   refine q00 (l':=#[false,true,true,true,true,true,true,false,true,true,true,true,true,false,false,false,false]) (by kernel_rfl) ?_
   revert aC
   revert af
   revert ag
   revert az
   revert dV
   revert eF
   revert bO
   revert aL
   revert p2
   revert o4
   revert p4
   revert p1
   revert w8
   exact jA.out
  refine Later.mk ?_
  intro w7 p0 p4 o4 aF dN HD7 aB
  refine q07 (i:=1) (j:=8) (by kernel_rfl) rfl rfl ?_ ?_
  ·skip
   intro K hK
   go_simp
   refine hK.out _ _ (Or.inr (aF.alloc _)) ?_
   clear hK K
   have hn:=NI.new aF 38
   have hal:=(G.refl w7).alloc (.cells #[.bool false,.slice none 0 0] 38)
   have aL:=G.trans aF hal
   have dW:=hid (dN.out.G hal)
   have eF:=hid (HD7.out.G hal)
   have av:w7.heap.size≠p0:=by have:=dN.out.2.1;omega
   have aH:w7.heap.size≠p4:=by have:=(HD7.out.is aF).1;omega
   generalize w7.heap.size=p1 at *
   generalize w7.alloc (.cells #[.bool false,.slice none 0 0] 38)=w8 at *
   have bO:=hid hn
   have aa:Hid (p0≠p1):=av.symm
   have ae:Hid (p1≠p0):=av
   have az:Hid (p4≠p1):=aH.symm
   clear hn hal aF dN HD7 av aH
   refine q00 (l':=#[true,true,true,true,true,true,true,false,false,true,true,true,true,false,false,false,false]) (by kernel_rfl) ?_
   revert aB
   revert ae
   revert az
   revert aa
   revert eF
   revert bO
   revert dW
   revert aL
   revert o4
   revert p4
   revert p1
   revert p0
   revert w8
   exact mF.out
  ·skip
   intro K hK
   go_simp
   refine hK.out _ _ (Or.inr (aF.alloc _)) ?_
   clear hK K
   have hn:=NI.new aF 38
   have hal:=(G.refl w7).alloc (.cells #[.bool false,.slice none 0 0] 38)
   have aL:=G.trans aF hal
   have dW:=hid (dN.out.G hal)
   have eF:=hid (HD7.out.G hal)
   have av:w7.heap.size≠p0:=by have:=dN.out.2.1;omega
   have aH:w7.heap.size≠p4:=by have:=(HD7.out.is aF).1;omega
   generalize w7.heap.size=p2 at *
   generalize w7.alloc (.cells #[.bool false,.slice none 0 0] 38)=w8 at *
   have dV:=hid hn
   have aj:Hid (p0≠p2):=av.symm
   have ak:Hid (p2≠p0):=av
   have aC:Hid (p4≠p2):=aH.symm
   clear hn hal aF dN HD7 av aH
   refine q00 (l':=#[true,false,true,true,true,true,true,false,true,true,true,true,true,false,false,false,false]) (by kernel_rfl) ?_
   revert ak
   revert aB
   revert aC
   revert aj
   revert dV
   revert eF
   revert dW
   revert aL
   revert p2
   revert o4
   revert p4
   revert p0
   revert w8
   exact mG.out
  refine Later.mk ?_
  intro w7 p0 p2 aF dN dO aj ak
  refine q07 (i:=1) (j:=6) (by kernel_rfl) rfl rfl ?_ ?_
  ·skip
   intro K hK
   go_simp
   refine hK.out _ _ (Or.inr (aF.alloc _)) ?_
   clear hK K
   have hn:=NI.new aF 38
   have hal:=(G.refl w7).alloc (.cells #[.bool false,.slice none 0 0] 38)
   have aL:=G.trans aF hal
   have dW:=hid (dN.out.G hal)
   have dV:=hid (dO.out.G hal)
   have av:w7.heap.size≠p0:=by have:=dN.out.2.1;omega
   have au:w7.heap.size≠p2:=by have:=dO.out.2.1;omega
   generalize w7.heap.size=p1 at *
   generalize w7.alloc (.cells #[.bool false,.slice none 0 0] 38)=w8 at *
   have bO:=hid hn
   have aa:Hid (p0≠p1):=av.symm
   have ae:Hid (p1≠p0):=av
   have ag:Hid (p2≠p1):=au.symm
   have af:Hid (p1≠p2):=au
   clear hn hal aF dN dO av au
   refine q00 (l':=#[true,true,true,true,true,true,false,false,true,true,true,true,true,false,false,false,false]) (by kernel_rfl) ?_
   revert ak
   revert ae
   revert af
   revert aj
   revert ag
   revert aa
   revert dV
   revert bO
   revert dW
   revert aL
   revert p2
   revert p1
   revert p0
   revert w8
   exact mE.out
  ·skip
   intro K hK
   go_simp
   go_wp2_with (go_at_call 50;refine Calls.mono (P:=Tryz.prog) (q1d w w7 aF b2 ya yb eZ hby kV.out) ?_;intro e w8 hx;obtain⟨p4,o4,rfl,hg,h72,ko⟩:=hx)
   refine hK.out _ _ (Or.inr (G.trans aF hg)) ?_
   clear hK K
   have aL:=G.trans aF hg
   have eF:=hid h72
   have av:p4≠p0:=by have h1:=dN.out.1;have h2:=dN.out.2.1;omega
   have au:p4≠p2:=by have h1:=dO.out.1;have h2:=dO.out.2.1;omega
   have dW:=hid (dN.out.G hg)
   have dV:=hid (dO.out.G hg)
   have aB:Hid (p4≠p0):=av
   have aC:Hid (p4≠p2):=au
   clear hg h72 ko aF dN dO av au
   refine q00 (l':=#[true,false,true,true,true,true,true,false,true,true,true,true,true,false,false,false,false]) (by kernel_rfl) ?_
   revert ak
   revert aB
   revert aC
   revert aj
   revert dV
   revert eF
   revert dW
   revert aL
   revert p2
   revert o4
   revert p4
   revert p0
   revert w8
   exact mG.out
  refine Later.mk ?_
  intro w7 p0 p1 aF dN dC aa ae
  refine q07 (i:=6) (j:=8) (by kernel_rfl) rfl rfl ?_ ?_
  ·skip
   intro K hK
   go_simp
   go_wp2_with (go_at_call 50;refine Calls.mono (P:=Tryz.prog) (q1d w w7 aF b2 ya yb eZ hby kV.out) ?_;intro e w8 hx;obtain⟨p4,o4,rfl,hg,h72,ko⟩:=hx)
   refine hK.out _ _ (Or.inr (G.trans aF hg)) ?_
   clear hK K
   have aL:=G.trans aF hg
   have eF:=hid h72
   have av:p4≠p0:=by have h1:=dN.out.1;have h2:=dN.out.2.1;omega
   have ai:p4≠p1:=by have h1:=dC.out.1;have h2:=dC.out.2.1;omega
   have dW:=hid (dN.out.G hg)
   have bO:=hid (dC.out.G hg)
   have aB:Hid (p4≠p0):=av
   have az:Hid (p4≠p1):=ai
   clear hg h72 ko aF dN dC av ai
   refine q00 (l':=#[true,true,true,true,true,true,true,false,false,true,true,true,true,false,false,false,false]) (by kernel_rfl) ?_
   revert aB
   revert ae
   revert az
   revert aa
   revert eF
   revert bO
   revert dW
   revert aL
   revert o4
   revert p4
   revert p1
   revert p0
   revert w8
   exact mF.out
  ·skip
   intro K hK
   go_simp
   refine hK.out _ _ (Or.inr (aF.alloc _)) ?_
   clear hK K
   have hn:=NI.new aF 38
   have hal:=(G.refl w7).alloc (.cells #[.bool false,.slice none 0 0] 38)
   have aL:=G.trans aF hal
   have dW:=hid (dN.out.G hal)
   have bO:=hid (dC.out.G hal)
   have av:w7.heap.size≠p0:=by have:=dN.out.2.1;omega
   have ai:w7.heap.size≠p1:=by have:=dC.out.2.1;omega
   generalize w7.heap.size=p2 at *
   generalize w7.alloc (.cells #[.bool false,.slice none 0 0] 38)=w8 at *
   have dV:=hid hn
   have aj:Hid (p0≠p2):=av.symm
   have ak:Hid (p2≠p0):=av
   have af:Hid (p1≠p2):=ai.symm
   have ag:Hid (p2≠p1):=ai
   clear hn hal aF dN dC av ai
   refine q00 (l':=#[true,true,true,true,true,true,false,false,true,true,true,true,true,false,false,false,false]) (by kernel_rfl) ?_
   revert ak
   revert ae
   revert af
   revert aj
   revert ag
   revert aa
   revert dV
   revert bO
   revert dW
   revert aL
   revert p2
   revert p1
   revert p0
   revert w8
   exact mE.out
  refine Later.mk ?_
  intro w8 p1 p4 o4 p2 aL bO eF dV az ag af aC
  refine q07 (i:=0) (j:=7) (by kernel_rfl) rfl rfl ?_ ?_
  ·skip
   intro K hK
   go_simp
   refine hK.out _ _ (Or.inr (aL.alloc _)) ?_
   clear hK K
   have hn:=NI.new aL 38
   have hal:=(G.refl w8).alloc (.cells #[.bool false,.slice none 0 0] 38)
   have bF:=G.trans aL hal
   have bY:=hid (bO.out.G hal)
   have eQ:=hid (eF.out.G hal)
   have ik:=hid (dV.out.G hal)
   have ai:w8.heap.size≠p1:=by have:=bO.out.2.1;omega
   have aH:w8.heap.size≠p4:=by have:=(eF.out.is aL).1;omega
   have au:w8.heap.size≠p2:=by have:=dV.out.2.1;omega
   generalize w8.heap.size=p0 at *
   generalize w8.alloc (.cells #[.bool false,.slice none 0 0] 38)=w9 at *
   have ig:=hid hn
   have ae:Hid (p1≠p0):=ai.symm
   have aa:Hid (p0≠p1):=ai
   have aB:Hid (p4≠p0):=aH.symm
   have ak:Hid (p2≠p0):=au.symm
   have aj:Hid (p0≠p2):=au
   clear hn hal aL bO eF dV ai aH au
   refine q00 (l':=#[true,true,true,true,true,true,true,false,true,true,true,true,true,false,false,false,false]) (by kernel_rfl) ?_
   revert ak
   revert aB
   revert ae
   revert aC
   revert af
   revert aj
   revert ag
   revert az
   revert aa
   revert ik
   revert eQ
   revert bY
   revert ig
   revert bF
   revert p2
   revert o4
   revert p4
   revert p1
   revert p0
   revert w9
   exact iN.out
  ·skip
   intro K hK
   go_simp
   have eH:Hid _:=q0W w8 p1 0 bx 0 p4 o4 0 xa yb KB (by omega) jZ.out jL.out bO.out.2.1 (G.lt aL hbx) (eF.out.is aL).1 bO.out.2.2 (IntIs.G HX0.out hbx aL) (eF.out.is aL).2
   go_wp2_with (go_at_call 49;refine Calls.mono (P:=Tryz.prog) eH.out ?_;intro e w9 hx;obtain⟨rfl,bF,hl,-,hkp⟩:=SetTo.step aL bO.out hx)
   have bY:=hid hl
   have eQ:=hid (DI.keep eF.out (hkp _ _ az.out))
   have ik:=hid (hkp _ _ ag.out dV.out)
   refine hK.out _ _ (Or.inr bF) ?_
   clear hK K hx hl hkp eH aL bO eF dV
   refine q00 (l':=#[false,true,true,true,true,true,true,true,true,true,true,true,true,false,false,false,false]) (by kernel_rfl) ?_
   revert aC
   revert af
   revert ag
   revert az
   revert ik
   revert eQ
   revert bY
   revert bF
   revert p2
   revert o4
   revert p4
   revert p1
   revert w9
   exact fT.out
  refine Later.mk ?_
  intro w8 p0 p4 o4 p2 aL dW eF dV aj aC aB ak
  refine q03 (i:=1) (by kernel_rfl) rfl ?_
  intro K hK
  go_simp
  refine hK.out _ _ (Or.inr (aL.alloc _)) ?_
  clear hK K
  have hn:=NI.new aL 38
  have hal:=(G.refl w8).alloc (.cells #[.bool false,.slice none 0 0] 38)
  have bF:=G.trans aL hal
  have ig:=hid (dW.out.G hal)
  have eQ:=hid (eF.out.G hal)
  have ik:=hid (dV.out.G hal)
  have av:w8.heap.size≠p0:=by have:=dW.out.2.1;omega
  have aH:w8.heap.size≠p4:=by have:=(eF.out.is aL).1;omega
  have au:w8.heap.size≠p2:=by have:=dV.out.2.1;omega
  generalize w8.heap.size=p1 at *
  generalize w8.alloc (.cells #[.bool false,.slice none 0 0] 38)=w9 at *
  have bY:=hid hn
  have aa:Hid (p0≠p1):=av.symm
  have ae:Hid (p1≠p0):=av
  have az:Hid (p4≠p1):=aH.symm
  have ag:Hid (p2≠p1):=au.symm
  have af:Hid (p1≠p2):=au
  clear hn hal aL dW eF dV av aH au
  refine q00 (l':=#[true,true,true,true,true,true,true,false,true,true,true,true,true,false,false,false,false]) (by kernel_rfl) ?_
  revert ak
  revert aB
  revert ae
  revert aC
  revert af
  revert aj
  revert ag
  revert az
  revert aa
  revert ik
  revert eQ
  revert bY
  revert ig
  revert bF
  revert p2
  revert o4
  revert p4
  revert p1
  revert p0
  revert w9
  exact iN.out
  refine Later.mk ?_
  intro w8 p0 p1 p4 o4 aL dW bO eF aa az ae aB
  refine q07 (i:=7) (j:=8) (by kernel_rfl) rfl rfl ?_ ?_
  ·skip
   intro K hK
   go_simp
   have eH:Hid _:=q0W w8 p1 0 bx 0 p4 o4 0 xa yb KB (by omega) jZ.out jL.out bO.out.2.1 (G.lt aL hbx) (eF.out.is aL).1 bO.out.2.2 (IntIs.G HX0.out hbx aL) (eF.out.is aL).2
   go_wp2_with (go_at_call 49;refine Calls.mono (P:=Tryz.prog) eH.out ?_;intro e w9 hx;obtain⟨rfl,bF,hl,-,hkp⟩:=SetTo.step aL bO.out hx)
   have bY:=hid hl
   have ig:=hid (hkp _ _ aa.out dW.out)
   have eQ:=hid (DI.keep eF.out (hkp _ _ az.out))
   refine hK.out _ _ (Or.inr bF) ?_
   clear hK K hx hl hkp eH aL dW bO eF
   refine q00 (l':=#[true,true,true,true,true,true,true,true,false,true,true,true,true,false,false,false,false]) (by kernel_rfl) ?_
   revert aB
   revert ae
   revert az
   revert aa
   revert eQ
   revert bY
   revert ig
   revert bF
   revert o4
   revert p4
   revert p1
   revert p0
   revert w9
   exact mD.out
  ·skip
   intro K hK
   go_simp
   refine hK.out _ _ (Or.inr (aL.alloc _)) ?_
   clear hK K
   have hn:=NI.new aL 38
   have hal:=(G.refl w8).alloc (.cells #[.bool false,.slice none 0 0] 38)
   have bF:=G.trans aL hal
   have ig:=hid (dW.out.G hal)
   have bY:=hid (bO.out.G hal)
   have eQ:=hid (eF.out.G hal)
   have av:w8.heap.size≠p0:=by have:=dW.out.2.1;omega
   have ai:w8.heap.size≠p1:=by have:=bO.out.2.1;omega
   have aH:w8.heap.size≠p4:=by have:=(eF.out.is aL).1;omega
   generalize w8.heap.size=p2 at *
   generalize w8.alloc (.cells #[.bool false,.slice none 0 0] 38)=w9 at *
   have ik:=hid hn
   have aj:Hid (p0≠p2):=av.symm
   have ak:Hid (p2≠p0):=av
   have af:Hid (p1≠p2):=ai.symm
   have ag:Hid (p2≠p1):=ai
   have aC:Hid (p4≠p2):=aH.symm
   clear hn hal aL dW bO eF av ai aH
   refine q00 (l':=#[true,true,true,true,true,true,true,false,true,true,true,true,true,false,false,false,false]) (by kernel_rfl) ?_
   revert ak
   revert aB
   revert ae
   revert aC
   revert af
   revert aj
   revert ag
   revert az
   revert aa
   revert ik
   revert eQ
   revert bY
   revert ig
   revert bF
   revert p2
   revert o4
   revert p4
   revert p1
   revert p0
   revert w9
   exact iN.out
  refine Later.mk ?_
  intro w8 p0 p1 p2 aL dW bO dV aa ag aj af ae ak
  refine q03 (i:=6) (by kernel_rfl) rfl ?_
  intro K hK
  go_simp
  go_wp2_with (go_at_call 50;refine Calls.mono (P:=Tryz.prog) (q1d w w8 aL b2 ya yb eZ hby kV.out) ?_;intro e w9 hx;obtain⟨p4,o4,rfl,hg,h72,ko⟩:=hx)
  refine hK.out _ _ (Or.inr (G.trans aL hg)) ?_
  clear hK K
  have bF:=G.trans aL hg
  have eQ:=hid h72
  have av:p4≠p0:=by have h1:=dW.out.1;have h2:=dW.out.2.1;omega
  have ai:p4≠p1:=by have h1:=bO.out.1;have h2:=bO.out.2.1;omega
  have au:p4≠p2:=by have h1:=dV.out.1;have h2:=dV.out.2.1;omega
  have ig:=hid (dW.out.G hg)
  have bY:=hid (bO.out.G hg)
  have ik:=hid (dV.out.G hg)
  have aB:Hid (p4≠p0):=av
  have az:Hid (p4≠p1):=ai
  have aC:Hid (p4≠p2):=au
  clear hg h72 ko aL dW bO dV av ai au
  refine q00 (l':=#[true,true,true,true,true,true,true,false,true,true,true,true,true,false,false,false,false]) (by kernel_rfl) ?_
  revert ak
  revert aB
  revert ae
  revert aC
  revert af
  revert aj
  revert ag
  revert az
  revert aa
  revert ik
  revert eQ
  revert bY
  revert ig
  revert bF
  revert p2
  revert o4
  revert p4
  revert p1
  revert p0
  revert w9
  exact iN.out
  refine Later.mk ?_
  intro w9 p1 p4 o4 p2 bF bY eQ ik az ag af aC
  refine q07 (i:=0) (j:=13) (by kernel_rfl) rfl rfl ?_ ?_
  ·skip
   intro K hK
   go_simp
   refine hK.out _ _ (Or.inr (bF.alloc _)) ?_
   clear hK K
   have hn:=NI.new bF 38
   have hal:=(G.refl w9).alloc (.cells #[.bool false,.slice none 0 0] 38)
   have aI:=G.trans bF hal
   have bK:=hid (bY.out.G hal)
   have dF:=hid (eQ.out.G hal)
   have bX:=hid (ik.out.G hal)
   have ai:w9.heap.size≠p1:=by have:=bY.out.2.1;omega
   have aH:w9.heap.size≠p4:=by have:=(eQ.out.is bF).1;omega
   have au:w9.heap.size≠p2:=by have:=ik.out.2.1;omega
   generalize w9.heap.size=p0 at *
   generalize w9.alloc (.cells #[.bool false,.slice none 0 0] 38)=aM at *
   have dE:=hid hn
   have ae:Hid (p1≠p0):=ai.symm
   have aa:Hid (p0≠p1):=ai
   have aB:Hid (p4≠p0):=aH.symm
   have ak:Hid (p2≠p0):=au.symm
   have aj:Hid (p0≠p2):=au
   clear hn hal bF bY eQ ik ai aH au
   refine q00 (l':=#[true,true,true,true,true,true,true,true,true,true,true,true,true,false,false,false,false]) (by kernel_rfl) ?_
   revert ak
   revert aB
   revert ae
   revert aC
   revert af
   revert aj
   revert ag
   revert az
   revert aa
   revert bX
   revert dF
   revert bK
   revert dE
   revert aI
   revert p2
   revert o4
   revert p4
   revert p1
   revert p0
   revert aM
   exact iM.out
  ·skip
   intro K hK
   go_simp
   go_wp2_with (go_at_call 50;refine Calls.mono (P:=Tryz.prog) (q1d w w9 bF bx xa xb jb hbx qi.out) ?_;intro e aM hx;obtain⟨p3,o3,rfl,hg,h72,ko⟩:=hx)
   refine hK.out _ _ (Or.inr (G.trans bF hg)) ?_
   clear hK K
   have aI:=G.trans bF hg
   have eT:=hid h72
   have ai:p3≠p1:=by have h1:=bY.out.1;have h2:=bY.out.2.1;omega
   have au:p3≠p2:=by have h1:=ik.out.1;have h2:=ik.out.2.1;omega
   have bK:=hid (bY.out.G hg)
   have dF:=hid (eQ.out.G hg)
   have bX:=hid (ik.out.G hg)
   have bN:Hid (p3≠p1):=ai
   have bR:Hid (p3≠p2):=au
   clear hg h72 ko bF bY eQ ik ai au
   refine q00 (l':=#[false,true,true,true,true,true,true,true,true,true,true,true,true,true,false,false,false]) (by kernel_rfl) ?_
   revert bR
   revert aC
   revert af
   revert bN
   revert ag
   revert az
   revert eT
   revert bX
   revert dF
   revert bK
   revert aI
   revert o3
   revert p3
   revert p2
   revert o4
   revert p4
   revert p1
   revert aM
   exact eG.out
  refine Later.mk ?_
  intro w9 p0 p1 p4 o4 bF ig bY eQ aa az ae aB
  refine q07 (i:=8) (j:=13) (by kernel_rfl) rfl rfl ?_ ?_
  ·skip
   intro K hK
   go_simp
   refine hK.out _ _ (Or.inr (bF.alloc _)) ?_
   clear hK K
   have hn:=NI.new bF 38
   have hal:=(G.refl w9).alloc (.cells #[.bool false,.slice none 0 0] 38)
   have aI:=G.trans bF hal
   have dE:=hid (ig.out.G hal)
   have bK:=hid (bY.out.G hal)
   have dF:=hid (eQ.out.G hal)
   have av:w9.heap.size≠p0:=by have:=ig.out.2.1;omega
   have ai:w9.heap.size≠p1:=by have:=bY.out.2.1;omega
   have aH:w9.heap.size≠p4:=by have:=(eQ.out.is bF).1;omega
   generalize w9.heap.size=p2 at *
   generalize w9.alloc (.cells #[.bool false,.slice none 0 0] 38)=aM at *
   have bX:=hid hn
   have aj:Hid (p0≠p2):=av.symm
   have ak:Hid (p2≠p0):=av
   have af:Hid (p1≠p2):=ai.symm
   have ag:Hid (p2≠p1):=ai
   have aC:Hid (p4≠p2):=aH.symm
   clear hn hal bF ig bY eQ av ai aH
   refine q00 (l':=#[true,true,true,true,true,true,true,true,true,true,true,true,true,false,false,false,false]) (by kernel_rfl) ?_
   revert ak
   revert aB
   revert ae
   revert aC
   revert af
   revert aj
   revert ag
   revert az
   revert aa
   revert bX
   revert dF
   revert bK
   revert dE
   revert aI
   revert p2
   revert o4
   revert p4
   revert p1
   revert p0
   revert aM
   exact iM.out
  ·skip
   intro K hK
   go_simp
   go_wp2_with (go_at_call 50;refine Calls.mono (P:=Tryz.prog) (q1d w w9 bF bx xa xb jb hbx qi.out) ?_;intro e aM hx;obtain⟨p3,o3,rfl,hg,h72,ko⟩:=hx)
   refine hK.out _ _ (Or.inr (G.trans bF hg)) ?_
   clear hK K
   have aI:=G.trans bF hg
   have eT:=hid h72
   have av:p3≠p0:=by have h1:=ig.out.1;have h2:=ig.out.2.1;omega
   have ai:p3≠p1:=by have h1:=bY.out.1;have h2:=bY.out.2.1;omega
   have dE:=hid (ig.out.G hg)
   have bK:=hid (bY.out.G hg)
   have dF:=hid (eQ.out.G hg)
   have bQ:Hid (p3≠p0):=av
   have bN:Hid (p3≠p1):=ai
   clear hg h72 ko bF ig bY eQ av ai
   refine q00 (l':=#[true,true,true,true,true,true,true,true,false,true,true,true,true,true,false,false,false]) (by kernel_rfl) ?_
   revert bQ
   revert aB
   revert ae
   revert bN
   revert az
   revert aa
   revert eT
   revert dF
   revert bK
   revert dE
   revert aI
   revert o3
   revert p3
   revert o4
   revert p4
   revert p1
   revert p0
   revert aM
   exact kL.out
  refine Later.mk ?_
  intro w9 p0 p1 p4 o4 p2 bF ig bY eQ ik aa az ag aj af aC ae aB ak
  refine q03 (i:=7) (by kernel_rfl) rfl ?_
  intro K hK
  go_simp
  have eH:Hid _:=q0W w9 p1 0 bx 0 p4 o4 0 xa yb KB (by omega) jZ.out jL.out bY.out.2.1 (G.lt bF hbx) (eQ.out.is bF).1 bY.out.2.2 (IntIs.G HX0.out hbx bF) (eQ.out.is bF).2
  go_wp2_with (go_at_call 49;refine Calls.mono (P:=Tryz.prog) eH.out ?_;intro e aM hx;obtain⟨rfl,aI,hl,-,hkp⟩:=SetTo.step bF bY.out hx)
  have bK:=hid hl
  have dE:=hid (hkp _ _ aa.out ig.out)
  have dF:=hid (DI.keep eQ.out (hkp _ _ az.out))
  have bX:=hid (hkp _ _ ag.out ik.out)
  refine hK.out _ _ (Or.inr aI) ?_
  clear hK K hx hl hkp eH bF ig bY eQ ik
  refine q00 (l':=#[true,true,true,true,true,true,true,true,true,true,true,true,true,false,false,false,false]) (by kernel_rfl) ?_
  revert ak
  revert aB
  revert ae
  revert aC
  revert af
  revert aj
  revert ag
  revert az
  revert aa
  revert bX
  revert dF
  revert bK
  revert dE
  revert aI
  revert p2
  revert o4
  revert p4
  revert p1
  revert p0
  revert aM
  exact iM.out
  refine Later.mk ?_
  intro aM p1 p4 o4 p2 p3 o3 aI bK dF bX eT az ag bN af aC bR
  refine q07 (i:=0) (j:=14) (by kernel_rfl) rfl rfl ?_ ?_
  ·skip
   intro K hK
   go_simp
   refine hK.out _ _ (Or.inr (aI.alloc _)) ?_
   clear hK K
   have hn:=NI.new aI 38
   have hal:=(G.refl aM).alloc (.cells #[.bool false,.slice none 0 0] 38)
   have bM:=G.trans aI hal
   have fG:=hid (bK.out.G hal)
   have kW:=hid (dF.out.G hal)
   have eO:=hid (bX.out.G hal)
   have ku:=hid (eT.out.G hal)
   have ai:aM.heap.size≠p1:=by have:=bK.out.2.1;omega
   have aH:aM.heap.size≠p4:=by have:=(dF.out.is aI).1;omega
   have au:aM.heap.size≠p2:=by have:=bX.out.2.1;omega
   have fo:aM.heap.size≠p3:=by have:=(eT.out.is aI).1;omega
   generalize aM.heap.size=p0 at *
   generalize aM.alloc (.cells #[.bool false,.slice none 0 0] 38)=dm at *
   have jB:=hid hn
   have ae:Hid (p1≠p0):=ai.symm
   have aa:Hid (p0≠p1):=ai
   have aB:Hid (p4≠p0):=aH.symm
   have ak:Hid (p2≠p0):=au.symm
   have aj:Hid (p0≠p2):=au
   have bQ:Hid (p3≠p0):=fo.symm
   clear hn hal aI bK dF bX eT ai aH au fo
   refine q00 (l':=#[true,true,true,true,true,true,true,true,true,true,true,true,true,true,false,false,false]) (by kernel_rfl) ?_
   revert bQ
   revert ak
   revert aB
   revert ae
   revert bR
   revert aC
   revert af
   revert aj
   revert bN
   revert ag
   revert az
   revert aa
   revert ku
   revert eO
   revert kW
   revert fG
   revert jB
   revert bM
   revert o3
   revert p3
   revert p2
   revert o4
   revert p4
   revert p1
   revert p0
   revert dm
   exact fQ.out
  ·skip
   intro K hK
   go_simp
   have eH:Hid _:=q0W aM p2 0 b2 0 p3 o3 0 ya xb KB (by omega) nO.out mr.out bX.out.2.1 (G.lt aI hby) (eT.out.is aI).1 bX.out.2.2 (IntIs.G uH.out hby aI) (eT.out.is aI).2
   go_wp2_with (go_at_call 49;refine Calls.mono (P:=Tryz.prog) eH.out ?_;intro e dm hx;obtain⟨rfl,bM,hl,-,hkp⟩:=SetTo.step aI bX.out hx)
   have eO:=hid hl
   have fG:=hid (hkp _ _ af.out bK.out)
   have kW:=hid (DI.keep dF.out (hkp _ _ aC.out))
   have ku:=hid (DI.keep eT.out (hkp _ _ bR.out))
   refine hK.out _ _ (Or.inr bM) ?_
   clear hK K hx hl hkp eH aI bK dF bX eT
   refine q03 (i:=0) (by kernel_rfl) rfl ?_
   intro K hK
   go_simp
   refine hK.out _ _ (Or.inr (bM.alloc _)) ?_
   clear hK K
   have hn:=NI.new bM 38
   have hal:=(G.refl dm).alloc (.cells #[.bool false,.slice none 0 0] 38)
   have kg:=G.trans bM hal
   have jC:=hid (fG.out.G hal)
   have uq:=hid (kW.out.G hal)
   have bZ:=hid (eO.out.G hal)
   have uu:=hid (ku.out.G hal)
   have ai:dm.heap.size≠p1:=by have:=fG.out.2.1;omega
   have aH:dm.heap.size≠p4:=by have:=(kW.out.is bM).1;omega
   have au:dm.heap.size≠p2:=by have:=eO.out.2.1;omega
   have fo:dm.heap.size≠p3:=by have:=(ku.out.is bM).1;omega
   generalize dm.heap.size=p0 at *
   generalize dm.alloc (.cells #[.bool false,.slice none 0 0] 38)=jK at *
   have jD:=hid hn
   have ae:Hid (p1≠p0):=ai.symm
   have aa:Hid (p0≠p1):=ai
   have aB:Hid (p4≠p0):=aH.symm
   have ak:Hid (p2≠p0):=au.symm
   have aj:Hid (p0≠p2):=au
   have bQ:Hid (p3≠p0):=fo.symm
   clear hn hal bM fG kW eO ku ai aH au fo
   refine q00 (l':=#[true,true,true,true,true,true,true,true,true,true,true,true,true,true,true,false,false]) (by kernel_rfl) ?_
   revert bQ
   revert ak
   revert aB
   revert ae
   revert bR
   revert aC
   revert af
   revert aj
   revert bN
   revert ag
   revert az
   revert aa
   revert uu
   revert bZ
   revert uq
   revert jC
   revert jD
   revert kg
   revert o3
   revert p3
   revert p2
   revert o4
   revert p4
   revert p1
   revert p0
   revert jK
   exact iy.out
  refine Later.mk ?_
  intro aM p0 p1 p4 o4 p3 o3 aI dE bK dF eT aa az bN ae aB bQ
  refine q03 (i:=8) (by kernel_rfl) rfl ?_
  intro K hK
  go_simp
  refine hK.out _ _ (Or.inr (aI.alloc _)) ?_
  clear hK K
  have hn:=NI.new aI 38
  have hal:=(G.refl aM).alloc (.cells #[.bool false,.slice none 0 0] 38)
  have bM:=G.trans aI hal
  have jB:=hid (dE.out.G hal)
  have fG:=hid (bK.out.G hal)
  have kW:=hid (dF.out.G hal)
  have ku:=hid (eT.out.G hal)
  have av:aM.heap.size≠p0:=by have:=dE.out.2.1;omega
  have ai:aM.heap.size≠p1:=by have:=bK.out.2.1;omega
  have aH:aM.heap.size≠p4:=by have:=(dF.out.is aI).1;omega
  have fo:aM.heap.size≠p3:=by have:=(eT.out.is aI).1;omega
  generalize aM.heap.size=p2 at *
  generalize aM.alloc (.cells #[.bool false,.slice none 0 0] 38)=dm at *
  have eO:=hid hn
  have aj:Hid (p0≠p2):=av.symm
  have ak:Hid (p2≠p0):=av
  have af:Hid (p1≠p2):=ai.symm
  have ag:Hid (p2≠p1):=ai
  have aC:Hid (p4≠p2):=aH.symm
  have bR:Hid (p3≠p2):=fo.symm
  clear hn hal aI dE bK dF eT av ai aH fo
  refine q00 (l':=#[true,true,true,true,true,true,true,true,true,true,true,true,true,true,false,false,false]) (by kernel_rfl) ?_
  revert bQ
  revert ak
  revert aB
  revert ae
  revert bR
  revert aC
  revert af
  revert aj
  revert bN
  revert ag
  revert az
  revert aa
  revert ku
  revert eO
  revert kW
  revert fG
  revert jB
  revert bM
  revert o3
  revert p3
  revert p2
  revert o4
  revert p4
  revert p1
  revert p0
  revert dm
  exact fQ.out
  refine Later.mk ?_
  intro aM p0 p1 p4 o4 p2 aI dE bK dF bX aa az ag aj af aC ae aB ak
  refine q03 (i:=13) (by kernel_rfl) rfl ?_
  intro K hK
  go_simp
  go_wp2_with (go_at_call 50;refine Calls.mono (P:=Tryz.prog) (q1d w aM aI bx xa xb jb hbx qi.out) ?_;intro e dm hx;obtain⟨p3,o3,rfl,hg,h72,ko⟩:=hx)
  refine hK.out _ _ (Or.inr (G.trans aI hg)) ?_
  clear hK K
  have bM:=G.trans aI hg
  have ku:=hid h72
  have av:p3≠p0:=by have h1:=dE.out.1;have h2:=dE.out.2.1;omega
  have ai:p3≠p1:=by have h1:=bK.out.1;have h2:=bK.out.2.1;omega
  have au:p3≠p2:=by have h1:=bX.out.1;have h2:=bX.out.2.1;omega
  have jB:=hid (dE.out.G hg)
  have fG:=hid (bK.out.G hg)
  have kW:=hid (dF.out.G hg)
  have eO:=hid (bX.out.G hg)
  have bQ:Hid (p3≠p0):=av
  have bN:Hid (p3≠p1):=ai
  have bR:Hid (p3≠p2):=au
  clear hg h72 ko aI dE bK dF bX av ai au
  refine q00 (l':=#[true,true,true,true,true,true,true,true,true,true,true,true,true,true,false,false,false]) (by kernel_rfl) ?_
  revert bQ
  revert ak
  revert aB
  revert ae
  revert bR
  revert aC
  revert af
  revert aj
  revert bN
  revert ag
  revert az
  revert aa
  revert ku
  revert eO
  revert kW
  revert fG
  revert jB
  revert bM
  revert o3
  revert p3
  revert p2
  revert o4
  revert p4
  revert p1
  revert p0
  revert dm
  exact fQ.out
  refine Later.mk ?_
  intro dm p0 p1 p4 o4 p2 p3 o3 bM jB fG kW eO ku aa az ag bN aj af aC bR ae aB ak bQ
  refine q03 (i:=14) (by kernel_rfl) rfl ?_
  intro K hK
  go_simp
  have eH:Hid _:=q0W dm p2 0 b2 0 p3 o3 0 ya xb KB (by omega) nO.out mr.out eO.out.2.1 (G.lt bM hby) (ku.out.is bM).1 eO.out.2.2 (IntIs.G uH.out hby bM) (ku.out.is bM).2
  go_wp2_with (go_at_call 49;refine Calls.mono (P:=Tryz.prog) eH.out ?_;intro e jK hx;obtain⟨rfl,kg,hl,-,hkp⟩:=SetTo.step bM eO.out hx)
  have bZ:=hid hl
  have jD:=hid (hkp _ _ aj.out jB.out)
  have jC:=hid (hkp _ _ af.out fG.out)
  have uq:=hid (DI.keep kW.out (hkp _ _ aC.out))
  have uu:=hid (DI.keep ku.out (hkp _ _ bR.out))
  refine hK.out _ _ (Or.inr kg) ?_
  clear hK K hx hl hkp eH bM jB fG kW eO ku
  refine q00 (l':=#[true,true,true,true,true,true,true,true,true,true,true,true,true,true,true,false,false]) (by kernel_rfl) ?_
  revert bQ
  revert ak
  revert aB
  revert ae
  revert bR
  revert aC
  revert af
  revert aj
  revert bN
  revert ag
  revert az
  revert aa
  revert uu
  revert bZ
  revert uq
  revert jC
  revert jD
  revert kg
  revert o3
  revert p3
  revert p2
  revert o4
  revert p4
  revert p1
  revert p0
  revert jK
  exact iy.out
  refine Later.mk ?_
  intro jK p0 p1 p4 o4 p2 p3 o3 kg jD jC uq bZ uu aa az ag bN aj af aC bR ae aB ak bQ
  refine q03 (i:=15) (by kernel_rfl) rfl ?_
  intro K hK
  go_simp
  have eH:Hid _:=q8w jK p0 0 p1 0 p2 0 0 (xa*(yb:Int)) (ya*(xb:Int)) (2*KB) (by omega) CF.out gY.out jD.out.2.1 jC.out.2.1 bZ.out.2.1 jD.out.2.2 jC.out.2.2 bZ.out.2.2
  go_wp2_with (go_at_call 65;refine Calls.mono (P:=Tryz.prog) eH.out ?_;intro e bJ hx;obtain⟨rfl,oL,hl,-,hkp⟩:=SetTo.step kg jD.out hx)
  have oM:=hid hl
  have rM:=hid (hkp _ _ ae.out jC.out)
  have Ca:=hid (DI.keep uq.out (hkp _ _ aB.out))
  have rO:=hid (hkp _ _ ak.out bZ.out)
  have Cb:=hid (DI.keep uu.out (hkp _ _ bQ.out))
  refine hK.out _ _ (Or.inl (by decide)) ?_
  clear hK K hx hl hkp eH kg jD jC uq bZ uu
  refine q03 (i:=16) (by kernel_rfl) rfl ?_
  intro K hK
  go_simp
  refine hK.out _ _ (Or.inl (by decide)) ?_
  clear hK K
  refine q0j (by kernel_rfl) ?_ _
  revert bQ
  revert ak
  revert aB
  revert ae
  revert bR
  revert aC
  revert af
  revert aj
  revert bN
  revert ag
  revert az
  revert aa
  revert Cb
  revert rO
  revert Ca
  revert rM
  revert oM
  revert oL
  revert o3
  revert p3
  revert p2
  revert o4
  revert p4
  revert p1
  revert p0
  revert bJ
  exact LX.out
 ·skip
  refine Later.mk ?_
  intro bJ p0 p1 p4 o4 p2 p3 o3 oL oM rM Ca rO Cb aa az ag bN aj af aC bR ae aB ak bQ
  clear aa az ag bN aj af aC bR ae aB ak bQ
  have HS:=oM.out
  have hG:=oL
  clear oM rM rO Ca Cb oL
  have xu:Hid (NI w bJ p0 (xa*(yb:Int)+ya*(xb:Int))):=HS
  clear HS
  go_wp2_with fail
  have hn0:=NI.new hG 38
  have hal:=(G.refl bJ).alloc (.cells #[.bool false,.slice none 0 0] 38)
  have hG1:=G.trans hG hal
  have hs1:=xu.out.G hal
  have hne:p0≠bJ.heap.size:=by have:=xu.out.2.1;omega
  generalize bJ.heap.size=pd at *
  generalize bJ.alloc (.cells #[.bool false,.slice none 0 0] 38)=v1 at *
  have iV:Hid (NI w v1 pd 0):=hn0
  have tK:Hid (NI w v1 p0 (xa*(yb:Int)+ya*(xb:Int))):=hs1
  clear hn0 hal hs1 hG xu
  refine Calls.mono (P:=Tryz.prog) (q1d w v1 hG1 bx xa xb jb hbx qi.out) ?_
  rintro e v2 ⟨pe,oe,rfl,hg2,k2,-⟩
  have HE2:Hid (DI w v2 pe oe xb):=k2
  clear k2
  have hG2:=G.trans hG1 hg2
  have kQ:Hid (NI w v2 pd 0):=iV.out.G hg2
  have HS2:Hid (NI w v2 p0 (xa*(yb:Int)+ya*(xb:Int))):=tK.out.G hg2
  clear hG1 hg2 iV tK
  go_wp2_with fail
  refine Calls.mono (P:=Tryz.prog) (q1d w v2 hG2 b2 ya yb eZ hby kV.out) ?_
  rintro e v3 ⟨pf,of,rfl,hg3,k3,-⟩
  have EO:Hid (DI w v3 pf of yb):=k3
  have hG3:=G.trans hG2 hg3
  have nZ:Hid (NI w v3 pd 0):=kQ.out.G hg3
  have qL:Hid (NI w v3 p0 (xa*(yb:Int)+ya*(xb:Int))):=HS2.out.G hg3
  have FH:Hid (DI w v3 pe oe xb):=HE2.out.G hg3
  clear hG2 hg3 kQ HS2 HE2 k3
  have HM:Hid _:=q0W v3 pd 0 pe oe pf of 0 xb yb KB (by omega) mr.out jL.out nZ.out.2.1 (FH.out.is hG3).1 (EO.out.is hG3).1 nZ.out.2.2 (FH.out.is hG3).2 (EO.out.is hG3).2
  go_wp2_with fail
  refine Calls.mono (P:=Tryz.prog) HM.out ?_
  intro e v4 hs
  obtain⟨rfl,hG4,jQ,-,hkp⟩:=SetTo.step hG3 nZ.out hs
  have xL:Hid (NI w v4 p0 (xa*(yb:Int)+ya*(xb:Int))):=hkp p0 _ hne qL.out
  rw[show (xb:Int)*yb=((xb*yb:Nat):Int) from by push_cast;rfl] at jQ
  have C9:Hid (NI w v4 pd ((xb*yb:Nat):Int)):=jQ
  clear hs hkp jQ HM nZ qL hG3 hne
  have HF:Hid _:=q17 v4 bz p0 0 pd 0 s1 s2 (xa*(yb:Int)+ya*(xb:Int)) (xb*yb) (2*KB+1) (by omega) Mq.out HD2.out HD0.out (G.lt hG4 hbz) xL.out.2.1 C9.out.2.1 (C8.out.G hbz hG4) xL.out.2.2 C9.out.2.2
  go_wp2_with fail
  refine Calls.mono (P:=Tryz.prog) HF.out ?_
  intro e v5 hs
  obtain⟨rfl,k1,k2⟩:=NormTo.after hG4 hs
  have lZ:Hid _:=k2
  clear hs k2 HF xL C9
  go_wp2_with fail
  go_ret
  exact⟨rfl,k1,lZ.out⟩
end Go.Proofs.YtljkfjjchkehaaaGreatDoor
