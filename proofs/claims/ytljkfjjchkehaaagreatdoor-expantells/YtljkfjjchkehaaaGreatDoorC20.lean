/- What is proved here: contracts of the reference: powers of two as ratios, over this seat's translation.
What is proved here: contracts of the reference's ratios: Sub of Rat, over this seat's translation.
What is proved here: contracts of the reference's ratios: den of any Rat, laid or new, over this seat's translation.
What is proved here: contracts of the reference's ratios: Add of Rat, of laid ones and of new ones, over this seat's translation. -/
import Derived.Test.YtljkfjjchkehaaaGreatDoorC19
import Derived.Test.YtljkfjjchkehaaaGreatDoorC15
import Derived.Test.YtljkfjjchkehaaaGreatDoorC12
namespace Go.Proofs.YtljkfjjchkehaaaGreatDoor
open Go.ChangeShapes Go.WideShapes Go.ChangeAt Go.RowKit
open BN
/-- A call hands back a new Rat; nothing that was there has turned. -/
def RetR (w:World) (sa:Int) (sb:Nat) (e:Ending) (w':World):Prop:=∃ p,e= .returned (.pointer (some ⟨p,0,none⟩))∧G w w'∧w.heap.size≤p∧p<w'.heap.size∧RatIs w' p sa (sb:Int)
theorem NormTo.ret {w0 w:World} {b:Nat} {sa:Int} {sb:Nat} {e:Ending} {w':World} (g:G w0 w) (hb:w0.heap.size≤b) (hs:b<w.heap.size) (h:NormTo w b sa sb e w'):RetR w0 sa sb e w':=
 ⟨b,h.1,GX.fresh g h.2.1 hb,hb,Nat.lt_of_lt_of_le hs h.2.1.size,h.2.2⟩
set_option maxRecDepth 10000 in
set_option maxHeartbeats 8000000 in
theorem qbF (w:World) (bz bx b2:Nat) (s1 s2 xa ya:Int) (xb yb:Nat) (KB:Nat) (hK:KB≤100000) (hx2:xa.natAbs<2^(32*KB)) (hy2:ya.natAbs<2^(32*KB)) (hxb2:xb<2^(32*KB)) (hyb2:yb<2^(32*KB)) (hxb:0<xb) (hyb:0<yb)
  (hbz:bz<w.heap.size) (hbx:bx<w.heap.size) (hby:b2<w.heap.size) (hz:RatIs w bz s1 s2) (hx:RatIs w bx xa xb) (hy:RatIs w b2 ya yb):
  Calls Tryz.prog 31 #[.pointer (some ⟨bz,0,none⟩),.pointer (some ⟨bx,0,none⟩),.pointer (some ⟨b2,0,none⟩)] w (NormTo w bz (Int.tdiv (xa*(yb:Int)-ya*(xb:Int)) (Nat.gcd (xa*(yb:Int)-ya*(xb:Int)).natAbs (xb*yb):Nat)) (xb*yb/Nat.gcd (xa*(yb:Int)-ya*(xb:Int)).natAbs (xb*yb))):=by
 have HB01:Hid (xa.natAbs<2^(32*KB)):=hx2
 have HB02:Hid (ya.natAbs<2^(32*KB)):=hy2
 have HB21:Hid ((xb:Int).natAbs<2^(32*KB)):=by show (xb:Int).natAbs<2^(32*KB);rw[Int.natAbs_natCast];exact hxb2
 have HB22:Hid ((yb:Int).natAbs<2^(32*KB)):=by show (yb:Int).natAbs<2^(32*KB);rw[Int.natAbs_natCast];exact hyb2
 have HX0:Hid (IntIs w bx 0 xa):=hx.1
 have HY0:Hid (IntIs w b2 0 ya):=hy.1
 have HX2:Hid (IntIs w bx 2 xb):=hx.2
 have HY2:Hid (IntIs w b2 2 yb):=hy.2
 have HXR:Hid (RatIs w bx xa xb):=hx
 have HYR:Hid (RatIs w b2 ya yb):=hy
 have HZR:Hid (RatIs w bz s1 s2):=hz
 have hxb0:(xb:Int)≠0:=by omega
 have hyb0:(yb:Int)≠0:=by omega
 have h2k:32*(2*KB)=32*KB+32*KB:=by omega
 have hn1:(xa*(yb:Int)).natAbs<2^(32*(2*KB)):=by
  rw[Int.natAbs_mul,Int.natAbs_natCast,h2k,Nat.pow_add]
  exact Nat.mul_lt_mul'' hx2 hyb2
 have hn2:(ya*(xb:Int)).natAbs<2^(32*(2*KB)):=by
  rw[Int.natAbs_mul,Int.natAbs_natCast,h2k,Nat.pow_add]
  exact Nat.mul_lt_mul'' hy2 hxb2
 have hd2:xb*yb<2^(32*(2*KB)):=by
  rw[h2k,Nat.pow_add]
  exact Nat.mul_lt_mul'' hxb2 hyb2
 have hup:2^(32*(2*KB))*2≤2^(32*(2*KB+1)):=by rw[← Nat.pow_succ];exact Nat.pow_le_pow_right (by omega) (by omega)
 have HN1:Hid ((xa*(yb:Int)).natAbs<2^(32*(2*KB))):=hn1
 have HN2:Hid ((ya*(xb:Int)).natAbs<2^(32*(2*KB))):=hn2
 have HNS:Hid ((xa*(yb:Int)-ya*(xb:Int)).natAbs<2^(32*(2*KB+1))):=by
  show (xa*(yb:Int)-ya*(xb:Int)).natAbs<2^(32*(2*KB+1))
  have:=Int.natAbs_sub_le (xa*(yb:Int)) (ya*(xb:Int))
  omega
 have HD2:Hid (xb*yb<2^(32*(2*KB+1))):=by show xb*yb<2^(32*(2*KB+1));omega
 have HD0:Hid (0<xb*yb):=Nat.mul_pos hxb hyb
 clear hx hy hz hx2 hy2 hxb2 hyb2 hxb hyb h2k hn1 hn2 hd2 hup
 go_enter Tryz.func31,Tryz.ntmps31
 go_wp2_with fail
 apply share
 ·intro LX
  refine q0J 15 (G w) (by kernel_rfl) (by first|exact(G.refl _).drew|exact G.drew (by assumption)) ?_
  intro hSh
  refine q02 2 (v:= ?_) rfl (by kernel_rfl) (fun _ _ _ h=>h) rfl ?_ ‹_› ?_
  rotate_left
  ·intro wq hwq
   first|(go_simp;done)|(go_simp;with_reducible rfl)
  try simp only[aput,List.set]
  refine q02 3 (v:= ?_) rfl (by kernel_rfl) (fun _ _ _ h=>h) rfl ?_ ‹_› ?_
  rotate_left
  ·intro wq hwq
   first|(go_simp;done)|(go_simp;with_reducible rfl)
  try simp only[aput,List.set]
  refine q02 4 (v:= ?_) rfl (by kernel_rfl) (fun _ _ _ h=>h) rfl ?_ ‹_› ?_
  rotate_left
  ·intro wq hwq
   first|(go_simp;done)|(go_simp;with_reducible rfl)
  try simp only[aput,List.set]
  refine q02 5 (v:= ?_) rfl (by kernel_rfl) (fun _ _ _ h=>h) rfl ?_ ‹_› ?_
  rotate_left
  ·intro wq hwq
   first|(go_simp;done)|(go_simp;with_reducible rfl)
  try simp only[aput,List.set]
  refine q02 9 (v:= ?_) rfl (by kernel_rfl) (fun _ _ _ h=>h) rfl ?_ ‹_› ?_
  rotate_left
  ·intro wq hwq
   first|(go_simp;done)|(go_simp;with_reducible rfl)
  try simp only[aput,List.set]
  refine q02 10 (v:= ?_) rfl (by kernel_rfl) (fun _ _ _ h=>h) rfl ?_ ‹_› ?_
  rotate_left
  ·intro wq hwq
   first|(go_simp;done)|(go_simp;with_reducible rfl)
  try simp only[aput,List.set]
  refine q02 11 (v:= ?_) rfl (by kernel_rfl) (fun _ _ _ h=>h) rfl ?_ ‹_› ?_
  rotate_left
  ·intro wq hwq
   first|(go_simp;done)|(go_simp;with_reducible rfl)
  try simp only[aput,List.set]
  refine q02 12 (v:= ?_) rfl (by kernel_rfl) (fun _ _ _ h=>h) rfl ?_ ‹_› ?_
  rotate_left
  ·intro wq hwq
   first|(go_simp;done)|(go_simp;with_reducible rfl)
  try simp only[aput,List.set]
  show q0C _ _ _ _ _ _ _ _ _ w.drew
  have hS5:=hSh
  generalize w.drew=w5 at *
  clear hSh
  apply share
  intro LSabcdemn
  apply share
  intro LSabcdem
  apply share
  intro LSabcdm
  apply share
  intro LSabdem
  apply share
  intro LSbcdem
  apply share
  intro LSabcd
  apply share
  intro LSabdm
  apply share
  intro LSbcdm
  apply share
  intro LSabc
  apply share
  intro LSabd
  apply share
  intro LSacd
  apply share
  intro LSbcd
  apply share
  intro LSab
  apply share
  intro LSac
  apply share
  intro LSad
  apply share
  intro LSbc
  apply share
  intro LSbd
  apply share
  intro LScd
  refine q37 (i:=0) (j:=1) (l:=6) (m:=8) (by kernel_rfl) rfl rfl rfl rfl ?_ ?_ ?_ ?_
  ·skip
   intro K hK
   go_simp
   refine hK.out _ _ (Or.inr (hS5.alloc _)) ?_
   clear hK K
   have hn:=NI.new hS5 38
   have hal:=(G.refl w5).alloc (.cells #[.bool false,.slice none 0 0] 38)
   have hS6:=G.trans hS5 hal
   generalize w5.heap.size=p0 at *
   generalize w5.alloc (.cells #[.bool false,.slice none 0 0] 38)=w6 at *
   have HA6:=hid hn
   clear hn hal
   refine q0l (i:=1) (j:=6) (l:=8) (by kernel_rfl) rfl rfl rfl ?_ ?_ ?_
   ·skip
    intro K hK
    go_simp
    refine hK.out _ _ (Or.inr (hS6.alloc _)) ?_
    clear hK K
    have hn:=NI.new hS6 38
    have hal:=(G.refl w6).alloc (.cells #[.bool false,.slice none 0 0] 38)
    have hS7:=G.trans hS6 hal
    have HA7:=hid (HA6.out.G hal)
    have hneHA:w6.heap.size≠p0:=by have:=HA6.out.2.1;omega
    generalize w6.heap.size=p1 at *
    generalize w6.alloc (.cells #[.bool false,.slice none 0 0] 38)=w7 at *
    have HB7:=hid hn
    have HNEHBHA:Hid (p0≠p1):=hneHA.symm
    have HNEHAHB:Hid (p1≠p0):=hneHA
    clear hn hal hS6 HA6 hneHA
    refine q00 (l':=#[true,true,true,true,true,true,false,false,false,true,true,true,true,false,false,false,false]) (by kernel_rfl) ?_
    revert HNEHAHB
    revert HNEHBHA
    revert HB7
    revert HA7
    revert hS7
    revert p1
    revert p0
    revert w7
    exact LSab.out
   ·skip
    intro K hK
    go_simp
    go_wp2_with (go_at_call 50;refine Calls.mono (P:=Tryz.prog) (q21 w6 b2 ya yb hyb0 (HYR.out.G hby hS6)) ?_;rintro e w7 ⟨rfl,hg⟩)
    refine hK.out _ _ (Or.inr (G.trans hS6 hg)) ?_
    clear hK K
    have hS7:=G.trans hS6 hg
    have HA7:=hid (HA6.out.G hg)
    clear hg hS6 HA6
    refine q00 (l':=#[true,false,true,true,true,true,true,false,false,true,true,true,true,false,false,false,false]) (by kernel_rfl) ?_
    revert HA7
    revert hS7
    revert p0
    revert w7
    exact LSad.out
   ·skip
    intro K hK
    go_simp
    refine hK.out _ _ (Or.inr (hS6.alloc _)) ?_
    clear hK K
    have hn:=NI.new hS6 38
    have hal:=(G.refl w6).alloc (.cells #[.bool false,.slice none 0 0] 38)
    have hS7:=G.trans hS6 hal
    have HA7:=hid (HA6.out.G hal)
    have hneHA:w6.heap.size≠p0:=by have:=HA6.out.2.1;omega
    generalize w6.heap.size=p2 at *
    generalize w6.alloc (.cells #[.bool false,.slice none 0 0] 38)=w7 at *
    have HC7:=hid hn
    have HNEHCHA:Hid (p0≠p2):=hneHA.symm
    have HNEHAHC:Hid (p2≠p0):=hneHA
    clear hn hal hS6 HA6 hneHA
    refine q00 (l':=#[true,false,true,true,true,true,false,false,true,true,true,true,true,false,false,false,false]) (by kernel_rfl) ?_
    revert HNEHAHC
    revert HNEHCHA
    revert HC7
    revert HA7
    revert hS7
    revert p2
    revert p0
    revert w7
    exact LSac.out
  ·skip
   intro K hK
   go_simp
   refine hK.out _ _ (Or.inr (hS5.alloc _)) ?_
   clear hK K
   have hn:=NI.new hS5 38
   have hal:=(G.refl w5).alloc (.cells #[.bool false,.slice none 0 0] 38)
   have hS6:=G.trans hS5 hal
   generalize w5.heap.size=p1 at *
   generalize w5.alloc (.cells #[.bool false,.slice none 0 0] 38)=w6 at *
   have HB6:=hid hn
   clear hn hal
   refine q0l (i:=0) (j:=6) (l:=8) (by kernel_rfl) rfl rfl rfl ?_ ?_ ?_
   ·skip
    intro K hK
    go_simp
    refine hK.out _ _ (Or.inr (hS6.alloc _)) ?_
    clear hK K
    have hn:=NI.new hS6 38
    have hal:=(G.refl w6).alloc (.cells #[.bool false,.slice none 0 0] 38)
    have hS7:=G.trans hS6 hal
    have HB7:=hid (HB6.out.G hal)
    have hneHB:w6.heap.size≠p1:=by have:=HB6.out.2.1;omega
    generalize w6.heap.size=p0 at *
    generalize w6.alloc (.cells #[.bool false,.slice none 0 0] 38)=w7 at *
    have HA7:=hid hn
    have HNEHAHB:Hid (p1≠p0):=hneHB.symm
    have HNEHBHA:Hid (p0≠p1):=hneHB
    clear hn hal hS6 HB6 hneHB
    refine q00 (l':=#[true,true,true,true,true,true,false,false,false,true,true,true,true,false,false,false,false]) (by kernel_rfl) ?_
    revert HNEHAHB
    revert HNEHBHA
    revert HB7
    revert HA7
    revert hS7
    revert p1
    revert p0
    revert w7
    exact LSab.out
   ·skip
    intro K hK
    go_simp
    go_wp2_with (go_at_call 50;refine Calls.mono (P:=Tryz.prog) (q21 w6 b2 ya yb hyb0 (HYR.out.G hby hS6)) ?_;rintro e w7 ⟨rfl,hg⟩)
    refine hK.out _ _ (Or.inr (G.trans hS6 hg)) ?_
    clear hK K
    have hS7:=G.trans hS6 hg
    have HB7:=hid (HB6.out.G hg)
    clear hg hS6 HB6
    refine q00 (l':=#[false,true,true,true,true,true,true,false,false,true,true,true,true,false,false,false,false]) (by kernel_rfl) ?_
    revert HB7
    revert hS7
    revert p1
    revert w7
    exact LSbd.out
   ·skip
    intro K hK
    go_simp
    refine hK.out _ _ (Or.inr (hS6.alloc _)) ?_
    clear hK K
    have hn:=NI.new hS6 38
    have hal:=(G.refl w6).alloc (.cells #[.bool false,.slice none 0 0] 38)
    have hS7:=G.trans hS6 hal
    have HB7:=hid (HB6.out.G hal)
    have hneHB:w6.heap.size≠p1:=by have:=HB6.out.2.1;omega
    generalize w6.heap.size=p2 at *
    generalize w6.alloc (.cells #[.bool false,.slice none 0 0] 38)=w7 at *
    have HC7:=hid hn
    have HNEHCHB:Hid (p1≠p2):=hneHB.symm
    have HNEHBHC:Hid (p2≠p1):=hneHB
    clear hn hal hS6 HB6 hneHB
    refine q00 (l':=#[false,true,true,true,true,true,false,false,true,true,true,true,true,false,false,false,false]) (by kernel_rfl) ?_
    revert HNEHCHB
    revert HNEHBHC
    revert HC7
    revert HB7
    revert hS7
    revert p2
    revert p1
    revert w7
    exact LSbc.out
  ·skip
   intro K hK
   go_simp
   go_wp2_with (go_at_call 50;refine Calls.mono (P:=Tryz.prog) (q21 w5 b2 ya yb hyb0 (HYR.out.G hby hS5)) ?_;rintro e w6 ⟨rfl,hg⟩)
   refine hK.out _ _ (Or.inr (G.trans hS5 hg)) ?_
   clear hK K
   have hS6:=G.trans hS5 hg
   clear hg
   refine q0l (i:=0) (j:=1) (l:=8) (by kernel_rfl) rfl rfl rfl ?_ ?_ ?_
   ·skip
    intro K hK
    go_simp
    refine hK.out _ _ (Or.inr (hS6.alloc _)) ?_
    clear hK K
    have hn:=NI.new hS6 38
    have hal:=(G.refl w6).alloc (.cells #[.bool false,.slice none 0 0] 38)
    have hS7:=G.trans hS6 hal
    generalize w6.heap.size=p0 at *
    generalize w6.alloc (.cells #[.bool false,.slice none 0 0] 38)=w7 at *
    have HA7:=hid hn
    clear hn hal hS6
    refine q00 (l':=#[true,false,true,true,true,true,true,false,false,true,true,true,true,false,false,false,false]) (by kernel_rfl) ?_
    revert HA7
    revert hS7
    revert p0
    revert w7
    exact LSad.out
   ·skip
    intro K hK
    go_simp
    refine hK.out _ _ (Or.inr (hS6.alloc _)) ?_
    clear hK K
    have hn:=NI.new hS6 38
    have hal:=(G.refl w6).alloc (.cells #[.bool false,.slice none 0 0] 38)
    have hS7:=G.trans hS6 hal
    generalize w6.heap.size=p1 at *
    generalize w6.alloc (.cells #[.bool false,.slice none 0 0] 38)=w7 at *
    have HB7:=hid hn
    clear hn hal hS6
    refine q00 (l':=#[false,true,true,true,true,true,true,false,false,true,true,true,true,false,false,false,false]) (by kernel_rfl) ?_
    revert HB7
    revert hS7
    revert p1
    revert w7
    exact LSbd.out
   ·skip
    intro K hK
    go_simp
    refine hK.out _ _ (Or.inr (hS6.alloc _)) ?_
    clear hK K
    have hn:=NI.new hS6 38
    have hal:=(G.refl w6).alloc (.cells #[.bool false,.slice none 0 0] 38)
    have hS7:=G.trans hS6 hal
    generalize w6.heap.size=p2 at *
    generalize w6.alloc (.cells #[.bool false,.slice none 0 0] 38)=w7 at *
    have HC7:=hid hn
    clear hn hal hS6
    refine q00 (l':=#[false,false,true,true,true,true,true,false,true,true,true,true,true,false,false,false,false]) (by kernel_rfl) ?_
    revert HC7
    revert hS7
    revert p2
    revert w7
    exact LScd.out
  ·skip
   intro K hK
   go_simp
   refine hK.out _ _ (Or.inr (hS5.alloc _)) ?_
   clear hK K
   have hn:=NI.new hS5 38
   have hal:=(G.refl w5).alloc (.cells #[.bool false,.slice none 0 0] 38)
   have hS6:=G.trans hS5 hal
   generalize w5.heap.size=p2 at *
   generalize w5.alloc (.cells #[.bool false,.slice none 0 0] 38)=w6 at *
   have HC6:=hid hn
   clear hn hal
   refine q0l (i:=0) (j:=1) (l:=6) (by kernel_rfl) rfl rfl rfl ?_ ?_ ?_
   ·skip
    intro K hK
    go_simp
    refine hK.out _ _ (Or.inr (hS6.alloc _)) ?_
    clear hK K
    have hn:=NI.new hS6 38
    have hal:=(G.refl w6).alloc (.cells #[.bool false,.slice none 0 0] 38)
    have hS7:=G.trans hS6 hal
    have HC7:=hid (HC6.out.G hal)
    have hneHC:w6.heap.size≠p2:=by have:=HC6.out.2.1;omega
    generalize w6.heap.size=p0 at *
    generalize w6.alloc (.cells #[.bool false,.slice none 0 0] 38)=w7 at *
    have HA7:=hid hn
    have HNEHAHC:Hid (p2≠p0):=hneHC.symm
    have HNEHCHA:Hid (p0≠p2):=hneHC
    clear hn hal hS6 HC6 hneHC
    refine q00 (l':=#[true,false,true,true,true,true,false,false,true,true,true,true,true,false,false,false,false]) (by kernel_rfl) ?_
    revert HNEHAHC
    revert HNEHCHA
    revert HC7
    revert HA7
    revert hS7
    revert p2
    revert p0
    revert w7
    exact LSac.out
   ·skip
    intro K hK
    go_simp
    refine hK.out _ _ (Or.inr (hS6.alloc _)) ?_
    clear hK K
    have hn:=NI.new hS6 38
    have hal:=(G.refl w6).alloc (.cells #[.bool false,.slice none 0 0] 38)
    have hS7:=G.trans hS6 hal
    have HC7:=hid (HC6.out.G hal)
    have hneHC:w6.heap.size≠p2:=by have:=HC6.out.2.1;omega
    generalize w6.heap.size=p1 at *
    generalize w6.alloc (.cells #[.bool false,.slice none 0 0] 38)=w7 at *
    have HB7:=hid hn
    have HNEHBHC:Hid (p2≠p1):=hneHC.symm
    have HNEHCHB:Hid (p1≠p2):=hneHC
    clear hn hal hS6 HC6 hneHC
    refine q00 (l':=#[false,true,true,true,true,true,false,false,true,true,true,true,true,false,false,false,false]) (by kernel_rfl) ?_
    revert HNEHCHB
    revert HNEHBHC
    revert HC7
    revert HB7
    revert hS7
    revert p2
    revert p1
    revert w7
    exact LSbc.out
   ·skip
    intro K hK
    go_simp
    go_wp2_with (go_at_call 50;refine Calls.mono (P:=Tryz.prog) (q21 w6 b2 ya yb hyb0 (HYR.out.G hby hS6)) ?_;rintro e w7 ⟨rfl,hg⟩)
    refine hK.out _ _ (Or.inr (G.trans hS6 hg)) ?_
    clear hK K
    have hS7:=G.trans hS6 hg
    have HC7:=hid (HC6.out.G hg)
    clear hg hS6 HC6
    refine q00 (l':=#[false,false,true,true,true,true,true,false,true,true,true,true,true,false,false,false,false]) (by kernel_rfl) ?_
    revert HC7
    revert hS7
    revert p2
    revert w7
    exact LScd.out
  refine Later.mk ?_
  intro w7 p2 hS7 HC7
  refine q07 (i:=0) (j:=1) (by kernel_rfl) rfl rfl ?_ ?_
  ·skip
   intro K hK
   go_simp
   refine hK.out _ _ (Or.inr (hS7.alloc _)) ?_
   clear hK K
   have hn:=NI.new hS7 38
   have hal:=(G.refl w7).alloc (.cells #[.bool false,.slice none 0 0] 38)
   have hS8:=G.trans hS7 hal
   have HC8:=hid (HC7.out.G hal)
   have hneHC:w7.heap.size≠p2:=by have:=HC7.out.2.1;omega
   generalize w7.heap.size=p0 at *
   generalize w7.alloc (.cells #[.bool false,.slice none 0 0] 38)=w8 at *
   have HA8:=hid hn
   have HNEHAHC:Hid (p2≠p0):=hneHC.symm
   have HNEHCHA:Hid (p0≠p2):=hneHC
   clear hn hal hS7 HC7 hneHC
   refine q00 (l':=#[true,false,true,true,true,true,true,false,true,true,true,true,true,false,false,false,false]) (by kernel_rfl) ?_
   revert HNEHAHC
   revert HNEHCHA
   revert HC8
   revert HA8
   revert hS8
   revert p2
   revert p0
   revert w8
   exact LSacd.out
  ·skip
   intro K hK
   go_simp
   refine hK.out _ _ (Or.inr (hS7.alloc _)) ?_
   clear hK K
   have hn:=NI.new hS7 38
   have hal:=(G.refl w7).alloc (.cells #[.bool false,.slice none 0 0] 38)
   have hS8:=G.trans hS7 hal
   have HC8:=hid (HC7.out.G hal)
   have hneHC:w7.heap.size≠p2:=by have:=HC7.out.2.1;omega
   generalize w7.heap.size=p1 at *
   generalize w7.alloc (.cells #[.bool false,.slice none 0 0] 38)=w8 at *
   have HB8:=hid hn
   have HNEHBHC:Hid (p2≠p1):=hneHC.symm
   have HNEHCHB:Hid (p1≠p2):=hneHC
   clear hn hal hS7 HC7 hneHC
   refine q00 (l':=#[false,true,true,true,true,true,true,false,true,true,true,true,true,false,false,false,false]) (by kernel_rfl) ?_
   revert HNEHCHB
   revert HNEHBHC
   revert HC8
   revert HB8
   revert hS8
   revert p2
   revert p1
   revert w8
   exact LSbcd.out
  refine Later.mk ?_
  intro w7 p1 hS7 HB7
  refine q0l (i:=0) (j:=7) (l:=8) (by kernel_rfl) rfl rfl rfl ?_ ?_ ?_
  ·skip
   intro K hK
   go_simp
   refine hK.out _ _ (Or.inr (hS7.alloc _)) ?_
   clear hK K
   have hn:=NI.new hS7 38
   have hal:=(G.refl w7).alloc (.cells #[.bool false,.slice none 0 0] 38)
   have hS8:=G.trans hS7 hal
   have HB8:=hid (HB7.out.G hal)
   have hneHB:w7.heap.size≠p1:=by have:=HB7.out.2.1;omega
   generalize w7.heap.size=p0 at *
   generalize w7.alloc (.cells #[.bool false,.slice none 0 0] 38)=w8 at *
   have HA8:=hid hn
   have HNEHAHB:Hid (p1≠p0):=hneHB.symm
   have HNEHBHA:Hid (p0≠p1):=hneHB
   clear hn hal hS7 HB7 hneHB
   refine q00 (l':=#[true,true,true,true,true,true,true,false,false,true,true,true,true,false,false,false,false]) (by kernel_rfl) ?_
   revert HNEHAHB
   revert HNEHBHA
   revert HB8
   revert HA8
   revert hS8
   revert p1
   revert p0
   revert w8
   exact LSabd.out
  ·skip
   intro K hK
   go_simp
   have HCW:Hid _:=q0Y w7 p1 0 bx 0 b2 2 0 xa yb KB (by omega) HB01.out HB22.out HB7.out.2.1 (G.lt hS7 hbx) (G.lt hS7 hby) HB7.out.2.2 (IntIs.G HX0.out hbx hS7) (IntIs.G HY2.out hby hS7)
   go_wp2_with (go_at_call 49;refine Calls.mono (P:=Tryz.prog) HCW.out ?_;intro e w8 hx;obtain⟨rfl,hS8,hl,-,hkp⟩:=SetTo.step hS7 HB7.out hx)
   have HB8:=hid hl
   refine hK.out _ _ (Or.inr hS8) ?_
   clear hK K hx hl hkp HCW hS7 HB7
   refine q0l (i:=0) (j:=8) (l:=13) (by kernel_rfl) rfl rfl rfl ?_ ?_ ?_
   ·skip
    intro K hK
    go_simp
    refine hK.out _ _ (Or.inr (hS8.alloc _)) ?_
    clear hK K
    have hn:=NI.new hS8 38
    have hal:=(G.refl w8).alloc (.cells #[.bool false,.slice none 0 0] 38)
    have hS9:=G.trans hS8 hal
    have HB9:=hid (HB8.out.G hal)
    have hneHB:w8.heap.size≠p1:=by have:=HB8.out.2.1;omega
    generalize w8.heap.size=p0 at *
    generalize w8.alloc (.cells #[.bool false,.slice none 0 0] 38)=w9 at *
    have HA9:=hid hn
    have HNEHAHB:Hid (p1≠p0):=hneHB.symm
    have HNEHBHA:Hid (p0≠p1):=hneHB
    clear hn hal hS8 HB8 hneHB
    refine q00 (l':=#[true,true,true,true,true,true,true,true,false,true,true,true,true,false,false,false,false]) (by kernel_rfl) ?_
    revert HNEHAHB
    revert HNEHBHA
    revert HB9
    revert HA9
    revert hS9
    revert p1
    revert p0
    revert w9
    exact LSabdm.out
   ·skip
    intro K hK
    go_simp
    refine hK.out _ _ (Or.inr (hS8.alloc _)) ?_
    clear hK K
    have hn:=NI.new hS8 38
    have hal:=(G.refl w8).alloc (.cells #[.bool false,.slice none 0 0] 38)
    have hS9:=G.trans hS8 hal
    have HB9:=hid (HB8.out.G hal)
    have hneHB:w8.heap.size≠p1:=by have:=HB8.out.2.1;omega
    generalize w8.heap.size=p2 at *
    generalize w8.alloc (.cells #[.bool false,.slice none 0 0] 38)=w9 at *
    have HC9:=hid hn
    have HNEHCHB:Hid (p1≠p2):=hneHB.symm
    have HNEHBHC:Hid (p2≠p1):=hneHB
    clear hn hal hS8 HB8 hneHB
    refine q00 (l':=#[false,true,true,true,true,true,true,true,true,true,true,true,true,false,false,false,false]) (by kernel_rfl) ?_
    revert HNEHCHB
    revert HNEHBHC
    revert HC9
    revert HB9
    revert hS9
    revert p2
    revert p1
    revert w9
    exact LSbcdm.out
   ·skip
    intro K hK
    go_simp
    go_wp2_with (go_at_call 50;refine Calls.mono (P:=Tryz.prog) (q21 w8 bx xa xb hxb0 (HXR.out.G hbx hS8)) ?_;rintro e w9 ⟨rfl,hg⟩)
    refine hK.out _ _ (Or.inr (G.trans hS8 hg)) ?_
    clear hK K
    have hS9:=G.trans hS8 hg
    have HB9:=hid (HB8.out.G hg)
    clear hg hS8 HB8
    refine q07 (i:=0) (j:=8) (by kernel_rfl) rfl rfl ?_ ?_
    ·skip
     intro K hK
     go_simp
     refine hK.out _ _ (Or.inr (hS9.alloc _)) ?_
     clear hK K
     have hn:=NI.new hS9 38
     have hal:=(G.refl w9).alloc (.cells #[.bool false,.slice none 0 0] 38)
     have hS10:=G.trans hS9 hal
     have HB10:=hid (HB9.out.G hal)
     have hneHB:w9.heap.size≠p1:=by have:=HB9.out.2.1;omega
     generalize w9.heap.size=p0 at *
     generalize w9.alloc (.cells #[.bool false,.slice none 0 0] 38)=w10 at *
     have HA10:=hid hn
     have HNEHAHB:Hid (p1≠p0):=hneHB.symm
     have HNEHBHA:Hid (p0≠p1):=hneHB
     clear hn hal hS9 HB9 hneHB
     refine q00 (l':=#[true,true,true,true,true,true,true,true,false,true,true,true,true,true,false,false,false]) (by kernel_rfl) ?_
     revert HNEHAHB
     revert HNEHBHA
     revert HB10
     revert HA10
     revert hS10
     revert p1
     revert p0
     revert w10
     exact LSabdem.out
    ·skip
     intro K hK
     go_simp
     refine hK.out _ _ (Or.inr (hS9.alloc _)) ?_
     clear hK K
     have hn:=NI.new hS9 38
     have hal:=(G.refl w9).alloc (.cells #[.bool false,.slice none 0 0] 38)
     have hS10:=G.trans hS9 hal
     have HB10:=hid (HB9.out.G hal)
     have hneHB:w9.heap.size≠p1:=by have:=HB9.out.2.1;omega
     generalize w9.heap.size=p2 at *
     generalize w9.alloc (.cells #[.bool false,.slice none 0 0] 38)=w10 at *
     have HC10:=hid hn
     have HNEHCHB:Hid (p1≠p2):=hneHB.symm
     have HNEHBHC:Hid (p2≠p1):=hneHB
     clear hn hal hS9 HB9 hneHB
     refine q00 (l':=#[false,true,true,true,true,true,true,true,true,true,true,true,true,true,false,false,false]) (by kernel_rfl) ?_
     revert HNEHCHB
     revert HNEHBHC
     revert HC10
     revert HB10
     revert hS10
     revert p2
     revert p1
     revert w10
     exact LSbcdem.out
  ·skip
   intro K hK
   go_simp
   refine hK.out _ _ (Or.inr (hS7.alloc _)) ?_
   clear hK K
   have hn:=NI.new hS7 38
   have hal:=(G.refl w7).alloc (.cells #[.bool false,.slice none 0 0] 38)
   have hS8:=G.trans hS7 hal
   have HB8:=hid (HB7.out.G hal)
   have hneHB:w7.heap.size≠p1:=by have:=HB7.out.2.1;omega
   generalize w7.heap.size=p2 at *
   generalize w7.alloc (.cells #[.bool false,.slice none 0 0] 38)=w8 at *
   have HC8:=hid hn
   have HNEHCHB:Hid (p1≠p2):=hneHB.symm
   have HNEHBHC:Hid (p2≠p1):=hneHB
   clear hn hal hS7 HB7 hneHB
   refine q00 (l':=#[false,true,true,true,true,true,true,false,true,true,true,true,true,false,false,false,false]) (by kernel_rfl) ?_
   revert HNEHCHB
   revert HNEHBHC
   revert HC8
   revert HB8
   revert hS8
   revert p2
   revert p1
   revert w8
   exact LSbcd.out
  refine Later.mk ?_
  intro w7 p1 p2 hS7 HB7 HC7 HNEHBHC HNEHCHB
  refine q07 (i:=0) (j:=6) (by kernel_rfl) rfl rfl ?_ ?_
  ·skip
   intro K hK
   go_simp
   refine hK.out _ _ (Or.inr (hS7.alloc _)) ?_
   clear hK K
   have hn:=NI.new hS7 38
   have hal:=(G.refl w7).alloc (.cells #[.bool false,.slice none 0 0] 38)
   have hS8:=G.trans hS7 hal
   have HB8:=hid (HB7.out.G hal)
   have HC8:=hid (HC7.out.G hal)
   have hneHB:w7.heap.size≠p1:=by have:=HB7.out.2.1;omega
   have hneHC:w7.heap.size≠p2:=by have:=HC7.out.2.1;omega
   generalize w7.heap.size=p0 at *
   generalize w7.alloc (.cells #[.bool false,.slice none 0 0] 38)=w8 at *
   have HA8:=hid hn
   have HNEHAHB:Hid (p1≠p0):=hneHB.symm
   have HNEHBHA:Hid (p0≠p1):=hneHB
   have HNEHAHC:Hid (p2≠p0):=hneHC.symm
   have HNEHCHA:Hid (p0≠p2):=hneHC
   clear hn hal hS7 HB7 HC7 hneHB hneHC
   refine q00 (l':=#[true,true,true,true,true,true,false,false,true,true,true,true,true,false,false,false,false]) (by kernel_rfl) ?_
   revert HNEHAHC
   revert HNEHAHB
   revert HNEHCHB
   revert HNEHCHA
   revert HNEHBHC
   revert HNEHBHA
   revert HC8
   revert HB8
   revert HA8
   revert hS8
   revert p2
   revert p1
   revert p0
   revert w8
   exact LSabc.out
  ·skip
   intro K hK
   go_simp
   go_wp2_with (go_at_call 50;refine Calls.mono (P:=Tryz.prog) (q21 w7 b2 ya yb hyb0 (HYR.out.G hby hS7)) ?_;rintro e w8 ⟨rfl,hg⟩)
   refine hK.out _ _ (Or.inr (G.trans hS7 hg)) ?_
   clear hK K
   have hS8:=G.trans hS7 hg
   have HB8:=hid (HB7.out.G hg)
   have HC8:=hid (HC7.out.G hg)
   clear hg hS7 HB7 HC7
   refine q00 (l':=#[false,true,true,true,true,true,true,false,true,true,true,true,true,false,false,false,false]) (by kernel_rfl) ?_
   revert HNEHCHB
   revert HNEHBHC
   revert HC8
   revert HB8
   revert hS8
   revert p2
   revert p1
   revert w8
   exact LSbcd.out
  refine Later.mk ?_
  intro w7 p0 hS7 HA7
  refine q07 (i:=1) (j:=8) (by kernel_rfl) rfl rfl ?_ ?_
  ·skip
   intro K hK
   go_simp
   refine hK.out _ _ (Or.inr (hS7.alloc _)) ?_
   clear hK K
   have hn:=NI.new hS7 38
   have hal:=(G.refl w7).alloc (.cells #[.bool false,.slice none 0 0] 38)
   have hS8:=G.trans hS7 hal
   have HA8:=hid (HA7.out.G hal)
   have hneHA:w7.heap.size≠p0:=by have:=HA7.out.2.1;omega
   generalize w7.heap.size=p1 at *
   generalize w7.alloc (.cells #[.bool false,.slice none 0 0] 38)=w8 at *
   have HB8:=hid hn
   have HNEHBHA:Hid (p0≠p1):=hneHA.symm
   have HNEHAHB:Hid (p1≠p0):=hneHA
   clear hn hal hS7 HA7 hneHA
   refine q00 (l':=#[true,true,true,true,true,true,true,false,false,true,true,true,true,false,false,false,false]) (by kernel_rfl) ?_
   revert HNEHAHB
   revert HNEHBHA
   revert HB8
   revert HA8
   revert hS8
   revert p1
   revert p0
   revert w8
   exact LSabd.out
  ·skip
   intro K hK
   go_simp
   refine hK.out _ _ (Or.inr (hS7.alloc _)) ?_
   clear hK K
   have hn:=NI.new hS7 38
   have hal:=(G.refl w7).alloc (.cells #[.bool false,.slice none 0 0] 38)
   have hS8:=G.trans hS7 hal
   have HA8:=hid (HA7.out.G hal)
   have hneHA:w7.heap.size≠p0:=by have:=HA7.out.2.1;omega
   generalize w7.heap.size=p2 at *
   generalize w7.alloc (.cells #[.bool false,.slice none 0 0] 38)=w8 at *
   have HC8:=hid hn
   have HNEHCHA:Hid (p0≠p2):=hneHA.symm
   have HNEHAHC:Hid (p2≠p0):=hneHA
   clear hn hal hS7 HA7 hneHA
   refine q00 (l':=#[true,false,true,true,true,true,true,false,true,true,true,true,true,false,false,false,false]) (by kernel_rfl) ?_
   revert HNEHAHC
   revert HNEHCHA
   revert HC8
   revert HA8
   revert hS8
   revert p2
   revert p0
   revert w8
   exact LSacd.out
  refine Later.mk ?_
  intro w7 p0 p2 hS7 HA7 HC7 HNEHCHA HNEHAHC
  refine q07 (i:=1) (j:=6) (by kernel_rfl) rfl rfl ?_ ?_
  ·skip
   intro K hK
   go_simp
   refine hK.out _ _ (Or.inr (hS7.alloc _)) ?_
   clear hK K
   have hn:=NI.new hS7 38
   have hal:=(G.refl w7).alloc (.cells #[.bool false,.slice none 0 0] 38)
   have hS8:=G.trans hS7 hal
   have HA8:=hid (HA7.out.G hal)
   have HC8:=hid (HC7.out.G hal)
   have hneHA:w7.heap.size≠p0:=by have:=HA7.out.2.1;omega
   have hneHC:w7.heap.size≠p2:=by have:=HC7.out.2.1;omega
   generalize w7.heap.size=p1 at *
   generalize w7.alloc (.cells #[.bool false,.slice none 0 0] 38)=w8 at *
   have HB8:=hid hn
   have HNEHBHA:Hid (p0≠p1):=hneHA.symm
   have HNEHAHB:Hid (p1≠p0):=hneHA
   have HNEHBHC:Hid (p2≠p1):=hneHC.symm
   have HNEHCHB:Hid (p1≠p2):=hneHC
   clear hn hal hS7 HA7 HC7 hneHA hneHC
   refine q00 (l':=#[true,true,true,true,true,true,false,false,true,true,true,true,true,false,false,false,false]) (by kernel_rfl) ?_
   revert HNEHAHC
   revert HNEHAHB
   revert HNEHCHB
   revert HNEHCHA
   revert HNEHBHC
   revert HNEHBHA
   revert HC8
   revert HB8
   revert HA8
   revert hS8
   revert p2
   revert p1
   revert p0
   revert w8
   exact LSabc.out
  ·skip
   intro K hK
   go_simp
   go_wp2_with (go_at_call 50;refine Calls.mono (P:=Tryz.prog) (q21 w7 b2 ya yb hyb0 (HYR.out.G hby hS7)) ?_;rintro e w8 ⟨rfl,hg⟩)
   refine hK.out _ _ (Or.inr (G.trans hS7 hg)) ?_
   clear hK K
   have hS8:=G.trans hS7 hg
   have HA8:=hid (HA7.out.G hg)
   have HC8:=hid (HC7.out.G hg)
   clear hg hS7 HA7 HC7
   refine q00 (l':=#[true,false,true,true,true,true,true,false,true,true,true,true,true,false,false,false,false]) (by kernel_rfl) ?_
   revert HNEHAHC
   revert HNEHCHA
   revert HC8
   revert HA8
   revert hS8
   revert p2
   revert p0
   revert w8
   exact LSacd.out
  refine Later.mk ?_
  intro w7 p0 p1 hS7 HA7 HB7 HNEHBHA HNEHAHB
  refine q07 (i:=6) (j:=8) (by kernel_rfl) rfl rfl ?_ ?_
  ·skip
   intro K hK
   go_simp
   go_wp2_with (go_at_call 50;refine Calls.mono (P:=Tryz.prog) (q21 w7 b2 ya yb hyb0 (HYR.out.G hby hS7)) ?_;rintro e w8 ⟨rfl,hg⟩)
   refine hK.out _ _ (Or.inr (G.trans hS7 hg)) ?_
   clear hK K
   have hS8:=G.trans hS7 hg
   have HA8:=hid (HA7.out.G hg)
   have HB8:=hid (HB7.out.G hg)
   clear hg hS7 HA7 HB7
   refine q00 (l':=#[true,true,true,true,true,true,true,false,false,true,true,true,true,false,false,false,false]) (by kernel_rfl) ?_
   revert HNEHAHB
   revert HNEHBHA
   revert HB8
   revert HA8
   revert hS8
   revert p1
   revert p0
   revert w8
   exact LSabd.out
  ·skip
   intro K hK
   go_simp
   refine hK.out _ _ (Or.inr (hS7.alloc _)) ?_
   clear hK K
   have hn:=NI.new hS7 38
   have hal:=(G.refl w7).alloc (.cells #[.bool false,.slice none 0 0] 38)
   have hS8:=G.trans hS7 hal
   have HA8:=hid (HA7.out.G hal)
   have HB8:=hid (HB7.out.G hal)
   have hneHA:w7.heap.size≠p0:=by have:=HA7.out.2.1;omega
   have hneHB:w7.heap.size≠p1:=by have:=HB7.out.2.1;omega
   generalize w7.heap.size=p2 at *
   generalize w7.alloc (.cells #[.bool false,.slice none 0 0] 38)=w8 at *
   have HC8:=hid hn
   have HNEHCHA:Hid (p0≠p2):=hneHA.symm
   have HNEHAHC:Hid (p2≠p0):=hneHA
   have HNEHCHB:Hid (p1≠p2):=hneHB.symm
   have HNEHBHC:Hid (p2≠p1):=hneHB
   clear hn hal hS7 HA7 HB7 hneHA hneHB
   refine q00 (l':=#[true,true,true,true,true,true,false,false,true,true,true,true,true,false,false,false,false]) (by kernel_rfl) ?_
   revert HNEHAHC
   revert HNEHAHB
   revert HNEHCHB
   revert HNEHCHA
   revert HNEHBHC
   revert HNEHBHA
   revert HC8
   revert HB8
   revert HA8
   revert hS8
   revert p2
   revert p1
   revert p0
   revert w8
   exact LSabc.out
  refine Later.mk ?_
  intro w8 p1 p2 hS8 HB8 HC8 HNEHBHC HNEHCHB
  refine q07 (i:=0) (j:=7) (by kernel_rfl) rfl rfl ?_ ?_
  ·skip
   intro K hK
   go_simp
   refine hK.out _ _ (Or.inr (hS8.alloc _)) ?_
   clear hK K
   have hn:=NI.new hS8 38
   have hal:=(G.refl w8).alloc (.cells #[.bool false,.slice none 0 0] 38)
   have hS9:=G.trans hS8 hal
   have HB9:=hid (HB8.out.G hal)
   have HC9:=hid (HC8.out.G hal)
   have hneHB:w8.heap.size≠p1:=by have:=HB8.out.2.1;omega
   have hneHC:w8.heap.size≠p2:=by have:=HC8.out.2.1;omega
   generalize w8.heap.size=p0 at *
   generalize w8.alloc (.cells #[.bool false,.slice none 0 0] 38)=w9 at *
   have HA9:=hid hn
   have HNEHAHB:Hid (p1≠p0):=hneHB.symm
   have HNEHBHA:Hid (p0≠p1):=hneHB
   have HNEHAHC:Hid (p2≠p0):=hneHC.symm
   have HNEHCHA:Hid (p0≠p2):=hneHC
   clear hn hal hS8 HB8 HC8 hneHB hneHC
   refine q00 (l':=#[true,true,true,true,true,true,true,false,true,true,true,true,true,false,false,false,false]) (by kernel_rfl) ?_
   revert HNEHAHC
   revert HNEHAHB
   revert HNEHCHB
   revert HNEHCHA
   revert HNEHBHC
   revert HNEHBHA
   revert HC9
   revert HB9
   revert HA9
   revert hS9
   revert p2
   revert p1
   revert p0
   revert w9
   exact LSabcd.out
  ·skip
   intro K hK
   go_simp
   have HCW:Hid _:=q0Y w8 p1 0 bx 0 b2 2 0 xa yb KB (by omega) HB01.out HB22.out HB8.out.2.1 (G.lt hS8 hbx) (G.lt hS8 hby) HB8.out.2.2 (IntIs.G HX0.out hbx hS8) (IntIs.G HY2.out hby hS8)
   go_wp2_with (go_at_call 49;refine Calls.mono (P:=Tryz.prog) HCW.out ?_;intro e w9 hx;obtain⟨rfl,hS9,hl,-,hkp⟩:=SetTo.step hS8 HB8.out hx)
   have HB9:=hid hl
   have HC9:=hid (hkp _ _ HNEHBHC.out HC8.out)
   refine hK.out _ _ (Or.inr hS9) ?_
   clear hK K hx hl hkp HCW hS8 HB8 HC8
   refine q00 (l':=#[false,true,true,true,true,true,true,true,true,true,true,true,true,false,false,false,false]) (by kernel_rfl) ?_
   revert HNEHCHB
   revert HNEHBHC
   revert HC9
   revert HB9
   revert hS9
   revert p2
   revert p1
   revert w9
   exact LSbcdm.out
  refine Later.mk ?_
  intro w8 p0 p2 hS8 HA8 HC8 HNEHCHA HNEHAHC
  refine q03 (i:=1) (by kernel_rfl) rfl ?_
  intro K hK
  go_simp
  refine hK.out _ _ (Or.inr (hS8.alloc _)) ?_
  clear hK K
  have hn:=NI.new hS8 38
  have hal:=(G.refl w8).alloc (.cells #[.bool false,.slice none 0 0] 38)
  have hS9:=G.trans hS8 hal
  have HA9:=hid (HA8.out.G hal)
  have HC9:=hid (HC8.out.G hal)
  have hneHA:w8.heap.size≠p0:=by have:=HA8.out.2.1;omega
  have hneHC:w8.heap.size≠p2:=by have:=HC8.out.2.1;omega
  generalize w8.heap.size=p1 at *
  generalize w8.alloc (.cells #[.bool false,.slice none 0 0] 38)=w9 at *
  have HB9:=hid hn
  have HNEHBHA:Hid (p0≠p1):=hneHA.symm
  have HNEHAHB:Hid (p1≠p0):=hneHA
  have HNEHBHC:Hid (p2≠p1):=hneHC.symm
  have HNEHCHB:Hid (p1≠p2):=hneHC
  clear hn hal hS8 HA8 HC8 hneHA hneHC
  refine q00 (l':=#[true,true,true,true,true,true,true,false,true,true,true,true,true,false,false,false,false]) (by kernel_rfl) ?_
  revert HNEHAHC
  revert HNEHAHB
  revert HNEHCHB
  revert HNEHCHA
  revert HNEHBHC
  revert HNEHBHA
  revert HC9
  revert HB9
  revert HA9
  revert hS9
  revert p2
  revert p1
  revert p0
  revert w9
  exact LSabcd.out
  refine Later.mk ?_
  intro w8 p0 p1 hS8 HA8 HB8 HNEHBHA HNEHAHB
  refine q07 (i:=7) (j:=8) (by kernel_rfl) rfl rfl ?_ ?_
  ·skip
   intro K hK
   go_simp
   have HCW:Hid _:=q0Y w8 p1 0 bx 0 b2 2 0 xa yb KB (by omega) HB01.out HB22.out HB8.out.2.1 (G.lt hS8 hbx) (G.lt hS8 hby) HB8.out.2.2 (IntIs.G HX0.out hbx hS8) (IntIs.G HY2.out hby hS8)
   go_wp2_with (go_at_call 49;refine Calls.mono (P:=Tryz.prog) HCW.out ?_;intro e w9 hx;obtain⟨rfl,hS9,hl,-,hkp⟩:=SetTo.step hS8 HB8.out hx)
   have HB9:=hid hl
   have HA9:=hid (hkp _ _ HNEHBHA.out HA8.out)
   refine hK.out _ _ (Or.inr hS9) ?_
   clear hK K hx hl hkp HCW hS8 HA8 HB8
   refine q00 (l':=#[true,true,true,true,true,true,true,true,false,true,true,true,true,false,false,false,false]) (by kernel_rfl) ?_
   revert HNEHAHB
   revert HNEHBHA
   revert HB9
   revert HA9
   revert hS9
   revert p1
   revert p0
   revert w9
   exact LSabdm.out
  ·skip
   intro K hK
   go_simp
   refine hK.out _ _ (Or.inr (hS8.alloc _)) ?_
   clear hK K
   have hn:=NI.new hS8 38
   have hal:=(G.refl w8).alloc (.cells #[.bool false,.slice none 0 0] 38)
   have hS9:=G.trans hS8 hal
   have HA9:=hid (HA8.out.G hal)
   have HB9:=hid (HB8.out.G hal)
   have hneHA:w8.heap.size≠p0:=by have:=HA8.out.2.1;omega
   have hneHB:w8.heap.size≠p1:=by have:=HB8.out.2.1;omega
   generalize w8.heap.size=p2 at *
   generalize w8.alloc (.cells #[.bool false,.slice none 0 0] 38)=w9 at *
   have HC9:=hid hn
   have HNEHCHA:Hid (p0≠p2):=hneHA.symm
   have HNEHAHC:Hid (p2≠p0):=hneHA
   have HNEHCHB:Hid (p1≠p2):=hneHB.symm
   have HNEHBHC:Hid (p2≠p1):=hneHB
   clear hn hal hS8 HA8 HB8 hneHA hneHB
   refine q00 (l':=#[true,true,true,true,true,true,true,false,true,true,true,true,true,false,false,false,false]) (by kernel_rfl) ?_
   revert HNEHAHC
   revert HNEHAHB
   revert HNEHCHB
   revert HNEHCHA
   revert HNEHBHC
   revert HNEHBHA
   revert HC9
   revert HB9
   revert HA9
   revert hS9
   revert p2
   revert p1
   revert p0
   revert w9
   exact LSabcd.out
  refine Later.mk ?_
  intro w8 p0 p1 p2 hS8 HA8 HB8 HC8 HNEHBHA HNEHBHC HNEHCHA HNEHCHB HNEHAHB HNEHAHC
  refine q03 (i:=6) (by kernel_rfl) rfl ?_
  intro K hK
  go_simp
  go_wp2_with (go_at_call 50;refine Calls.mono (P:=Tryz.prog) (q21 w8 b2 ya yb hyb0 (HYR.out.G hby hS8)) ?_;rintro e w9 ⟨rfl,hg⟩)
  refine hK.out _ _ (Or.inr (G.trans hS8 hg)) ?_
  clear hK K
  have hS9:=G.trans hS8 hg
  have HA9:=hid (HA8.out.G hg)
  have HB9:=hid (HB8.out.G hg)
  have HC9:=hid (HC8.out.G hg)
  clear hg hS8 HA8 HB8 HC8
  refine q00 (l':=#[true,true,true,true,true,true,true,false,true,true,true,true,true,false,false,false,false]) (by kernel_rfl) ?_
  revert HNEHAHC
  revert HNEHAHB
  revert HNEHCHB
  revert HNEHCHA
  revert HNEHBHC
  revert HNEHBHA
  revert HC9
  revert HB9
  revert HA9
  revert hS9
  revert p2
  revert p1
  revert p0
  revert w9
  exact LSabcd.out
  refine Later.mk ?_
  intro w9 p1 p2 hS9 HB9 HC9 HNEHBHC HNEHCHB
  refine q07 (i:=0) (j:=13) (by kernel_rfl) rfl rfl ?_ ?_
  ·skip
   intro K hK
   go_simp
   refine hK.out _ _ (Or.inr (hS9.alloc _)) ?_
   clear hK K
   have hn:=NI.new hS9 38
   have hal:=(G.refl w9).alloc (.cells #[.bool false,.slice none 0 0] 38)
   have hS10:=G.trans hS9 hal
   have HB10:=hid (HB9.out.G hal)
   have HC10:=hid (HC9.out.G hal)
   have hneHB:w9.heap.size≠p1:=by have:=HB9.out.2.1;omega
   have hneHC:w9.heap.size≠p2:=by have:=HC9.out.2.1;omega
   generalize w9.heap.size=p0 at *
   generalize w9.alloc (.cells #[.bool false,.slice none 0 0] 38)=w10 at *
   have HA10:=hid hn
   have HNEHAHB:Hid (p1≠p0):=hneHB.symm
   have HNEHBHA:Hid (p0≠p1):=hneHB
   have HNEHAHC:Hid (p2≠p0):=hneHC.symm
   have HNEHCHA:Hid (p0≠p2):=hneHC
   clear hn hal hS9 HB9 HC9 hneHB hneHC
   refine q00 (l':=#[true,true,true,true,true,true,true,true,true,true,true,true,true,false,false,false,false]) (by kernel_rfl) ?_
   revert HNEHAHC
   revert HNEHAHB
   revert HNEHCHB
   revert HNEHCHA
   revert HNEHBHC
   revert HNEHBHA
   revert HC10
   revert HB10
   revert HA10
   revert hS10
   revert p2
   revert p1
   revert p0
   revert w10
   exact LSabcdm.out
  ·skip
   intro K hK
   go_simp
   go_wp2_with (go_at_call 50;refine Calls.mono (P:=Tryz.prog) (q21 w9 bx xa xb hxb0 (HXR.out.G hbx hS9)) ?_;rintro e w10 ⟨rfl,hg⟩)
   refine hK.out _ _ (Or.inr (G.trans hS9 hg)) ?_
   clear hK K
   have hS10:=G.trans hS9 hg
   have HB10:=hid (HB9.out.G hg)
   have HC10:=hid (HC9.out.G hg)
   clear hg hS9 HB9 HC9
   refine q00 (l':=#[false,true,true,true,true,true,true,true,true,true,true,true,true,true,false,false,false]) (by kernel_rfl) ?_
   revert HNEHCHB
   revert HNEHBHC
   revert HC10
   revert HB10
   revert hS10
   revert p2
   revert p1
   revert w10
   exact LSbcdem.out
  refine Later.mk ?_
  intro w9 p0 p1 hS9 HA9 HB9 HNEHBHA HNEHAHB
  refine q07 (i:=8) (j:=13) (by kernel_rfl) rfl rfl ?_ ?_
  ·skip
   intro K hK
   go_simp
   refine hK.out _ _ (Or.inr (hS9.alloc _)) ?_
   clear hK K
   have hn:=NI.new hS9 38
   have hal:=(G.refl w9).alloc (.cells #[.bool false,.slice none 0 0] 38)
   have hS10:=G.trans hS9 hal
   have HA10:=hid (HA9.out.G hal)
   have HB10:=hid (HB9.out.G hal)
   have hneHA:w9.heap.size≠p0:=by have:=HA9.out.2.1;omega
   have hneHB:w9.heap.size≠p1:=by have:=HB9.out.2.1;omega
   generalize w9.heap.size=p2 at *
   generalize w9.alloc (.cells #[.bool false,.slice none 0 0] 38)=w10 at *
   have HC10:=hid hn
   have HNEHCHA:Hid (p0≠p2):=hneHA.symm
   have HNEHAHC:Hid (p2≠p0):=hneHA
   have HNEHCHB:Hid (p1≠p2):=hneHB.symm
   have HNEHBHC:Hid (p2≠p1):=hneHB
   clear hn hal hS9 HA9 HB9 hneHA hneHB
   refine q00 (l':=#[true,true,true,true,true,true,true,true,true,true,true,true,true,false,false,false,false]) (by kernel_rfl) ?_
   revert HNEHAHC
   revert HNEHAHB
   revert HNEHCHB
   revert HNEHCHA
   revert HNEHBHC
   revert HNEHBHA
   revert HC10
   revert HB10
   revert HA10
   revert hS10
   revert p2
   revert p1
   revert p0
   revert w10
   exact LSabcdm.out
  ·skip
   intro K hK
   go_simp
   go_wp2_with (go_at_call 50;refine Calls.mono (P:=Tryz.prog) (q21 w9 bx xa xb hxb0 (HXR.out.G hbx hS9)) ?_;rintro e w10 ⟨rfl,hg⟩)
   refine hK.out _ _ (Or.inr (G.trans hS9 hg)) ?_
   clear hK K
   have hS10:=G.trans hS9 hg
   have HA10:=hid (HA9.out.G hg)
   have HB10:=hid (HB9.out.G hg)
   clear hg hS9 HA9 HB9
   refine q00 (l':=#[true,true,true,true,true,true,true,true,false,true,true,true,true,true,false,false,false]) (by kernel_rfl) ?_
   revert HNEHAHB
   revert HNEHBHA
   revert HB10
   revert HA10
   revert hS10
   revert p1
   revert p0
   revert w10
   exact LSabdem.out
  refine Later.mk ?_
  intro w9 p0 p1 p2 hS9 HA9 HB9 HC9 HNEHBHA HNEHBHC HNEHCHA HNEHCHB HNEHAHB HNEHAHC
  refine q03 (i:=7) (by kernel_rfl) rfl ?_
  intro K hK
  go_simp
  have HCW:Hid _:=q0Y w9 p1 0 bx 0 b2 2 0 xa yb KB (by omega) HB01.out HB22.out HB9.out.2.1 (G.lt hS9 hbx) (G.lt hS9 hby) HB9.out.2.2 (IntIs.G HX0.out hbx hS9) (IntIs.G HY2.out hby hS9)
  go_wp2_with (go_at_call 49;refine Calls.mono (P:=Tryz.prog) HCW.out ?_;intro e w10 hx;obtain⟨rfl,hS10,hl,-,hkp⟩:=SetTo.step hS9 HB9.out hx)
  have HB10:=hid hl
  have HA10:=hid (hkp _ _ HNEHBHA.out HA9.out)
  have HC10:=hid (hkp _ _ HNEHBHC.out HC9.out)
  refine hK.out _ _ (Or.inr hS10) ?_
  clear hK K hx hl hkp HCW hS9 HA9 HB9 HC9
  refine q00 (l':=#[true,true,true,true,true,true,true,true,true,true,true,true,true,false,false,false,false]) (by kernel_rfl) ?_
  revert HNEHAHC
  revert HNEHAHB
  revert HNEHCHB
  revert HNEHCHA
  revert HNEHBHC
  revert HNEHBHA
  revert HC10
  revert HB10
  revert HA10
  revert hS10
  revert p2
  revert p1
  revert p0
  revert w10
  exact LSabcdm.out
  refine Later.mk ?_
  intro w10 p1 p2 hS10 HB10 HC10 HNEHBHC HNEHCHB
  refine q07 (i:=0) (j:=14) (by kernel_rfl) rfl rfl ?_ ?_
  ·skip
   intro K hK
   go_simp
   refine hK.out _ _ (Or.inr (hS10.alloc _)) ?_
   clear hK K
   have hn:=NI.new hS10 38
   have hal:=(G.refl w10).alloc (.cells #[.bool false,.slice none 0 0] 38)
   have hS11:=G.trans hS10 hal
   have HB11:=hid (HB10.out.G hal)
   have HC11:=hid (HC10.out.G hal)
   have hneHB:w10.heap.size≠p1:=by have:=HB10.out.2.1;omega
   have hneHC:w10.heap.size≠p2:=by have:=HC10.out.2.1;omega
   generalize w10.heap.size=p0 at *
   generalize w10.alloc (.cells #[.bool false,.slice none 0 0] 38)=w11 at *
   have HA11:=hid hn
   have HNEHAHB:Hid (p1≠p0):=hneHB.symm
   have HNEHBHA:Hid (p0≠p1):=hneHB
   have HNEHAHC:Hid (p2≠p0):=hneHC.symm
   have HNEHCHA:Hid (p0≠p2):=hneHC
   clear hn hal hS10 HB10 HC10 hneHB hneHC
   refine q00 (l':=#[true,true,true,true,true,true,true,true,true,true,true,true,true,true,false,false,false]) (by kernel_rfl) ?_
   revert HNEHAHC
   revert HNEHAHB
   revert HNEHCHB
   revert HNEHCHA
   revert HNEHBHC
   revert HNEHBHA
   revert HC11
   revert HB11
   revert HA11
   revert hS11
   revert p2
   revert p1
   revert p0
   revert w11
   exact LSabcdem.out
  ·skip
   intro K hK
   go_simp
   have HCW:Hid _:=q0Y w10 p2 0 b2 0 bx 2 0 ya xb KB (by omega) HB02.out HB21.out HC10.out.2.1 (G.lt hS10 hby) (G.lt hS10 hbx) HC10.out.2.2 (IntIs.G HY0.out hby hS10) (IntIs.G HX2.out hbx hS10)
   go_wp2_with (go_at_call 49;refine Calls.mono (P:=Tryz.prog) HCW.out ?_;intro e w11 hx;obtain⟨rfl,hS11,hl,-,hkp⟩:=SetTo.step hS10 HC10.out hx)
   have HC11:=hid hl
   have HB11:=hid (hkp _ _ HNEHCHB.out HB10.out)
   refine hK.out _ _ (Or.inr hS11) ?_
   clear hK K hx hl hkp HCW hS10 HB10 HC10
   refine q03 (i:=0) (by kernel_rfl) rfl ?_
   intro K hK
   go_simp
   refine hK.out _ _ (Or.inr (hS11.alloc _)) ?_
   clear hK K
   have hn:=NI.new hS11 38
   have hal:=(G.refl w11).alloc (.cells #[.bool false,.slice none 0 0] 38)
   have hS12:=G.trans hS11 hal
   have HB12:=hid (HB11.out.G hal)
   have HC12:=hid (HC11.out.G hal)
   have hneHB:w11.heap.size≠p1:=by have:=HB11.out.2.1;omega
   have hneHC:w11.heap.size≠p2:=by have:=HC11.out.2.1;omega
   generalize w11.heap.size=p0 at *
   generalize w11.alloc (.cells #[.bool false,.slice none 0 0] 38)=w12 at *
   have HA12:=hid hn
   have HNEHAHB:Hid (p1≠p0):=hneHB.symm
   have HNEHBHA:Hid (p0≠p1):=hneHB
   have HNEHAHC:Hid (p2≠p0):=hneHC.symm
   have HNEHCHA:Hid (p0≠p2):=hneHC
   clear hn hal hS11 HB11 HC11 hneHB hneHC
   refine q00 (l':=#[true,true,true,true,true,true,true,true,true,true,true,true,true,true,true,false,false]) (by kernel_rfl) ?_
   revert HNEHAHC
   revert HNEHAHB
   revert HNEHCHB
   revert HNEHCHA
   revert HNEHBHC
   revert HNEHBHA
   revert HC12
   revert HB12
   revert HA12
   revert hS12
   revert p2
   revert p1
   revert p0
   revert w12
   exact LSabcdemn.out
  refine Later.mk ?_
  intro w10 p0 p1 hS10 HA10 HB10 HNEHBHA HNEHAHB
  refine q03 (i:=8) (by kernel_rfl) rfl ?_
  intro K hK
  go_simp
  refine hK.out _ _ (Or.inr (hS10.alloc _)) ?_
  clear hK K
  have hn:=NI.new hS10 38
  have hal:=(G.refl w10).alloc (.cells #[.bool false,.slice none 0 0] 38)
  have hS11:=G.trans hS10 hal
  have HA11:=hid (HA10.out.G hal)
  have HB11:=hid (HB10.out.G hal)
  have hneHA:w10.heap.size≠p0:=by have:=HA10.out.2.1;omega
  have hneHB:w10.heap.size≠p1:=by have:=HB10.out.2.1;omega
  generalize w10.heap.size=p2 at *
  generalize w10.alloc (.cells #[.bool false,.slice none 0 0] 38)=w11 at *
  have HC11:=hid hn
  have HNEHCHA:Hid (p0≠p2):=hneHA.symm
  have HNEHAHC:Hid (p2≠p0):=hneHA
  have HNEHCHB:Hid (p1≠p2):=hneHB.symm
  have HNEHBHC:Hid (p2≠p1):=hneHB
  clear hn hal hS10 HA10 HB10 hneHA hneHB
  refine q00 (l':=#[true,true,true,true,true,true,true,true,true,true,true,true,true,true,false,false,false]) (by kernel_rfl) ?_
  revert HNEHAHC
  revert HNEHAHB
  revert HNEHCHB
  revert HNEHCHA
  revert HNEHBHC
  revert HNEHBHA
  revert HC11
  revert HB11
  revert HA11
  revert hS11
  revert p2
  revert p1
  revert p0
  revert w11
  exact LSabcdem.out
  refine Later.mk ?_
  intro w10 p0 p1 p2 hS10 HA10 HB10 HC10 HNEHBHA HNEHBHC HNEHCHA HNEHCHB HNEHAHB HNEHAHC
  refine q03 (i:=13) (by kernel_rfl) rfl ?_
  intro K hK
  go_simp
  go_wp2_with (go_at_call 50;refine Calls.mono (P:=Tryz.prog) (q21 w10 bx xa xb hxb0 (HXR.out.G hbx hS10)) ?_;rintro e w11 ⟨rfl,hg⟩)
  refine hK.out _ _ (Or.inr (G.trans hS10 hg)) ?_
  clear hK K
  have hS11:=G.trans hS10 hg
  have HA11:=hid (HA10.out.G hg)
  have HB11:=hid (HB10.out.G hg)
  have HC11:=hid (HC10.out.G hg)
  clear hg hS10 HA10 HB10 HC10
  refine q00 (l':=#[true,true,true,true,true,true,true,true,true,true,true,true,true,true,false,false,false]) (by kernel_rfl) ?_
  revert HNEHAHC
  revert HNEHAHB
  revert HNEHCHB
  revert HNEHCHA
  revert HNEHBHC
  revert HNEHBHA
  revert HC11
  revert HB11
  revert HA11
  revert hS11
  revert p2
  revert p1
  revert p0
  revert w11
  exact LSabcdem.out
  refine Later.mk ?_
  intro w11 p0 p1 p2 hS11 HA11 HB11 HC11 HNEHBHA HNEHBHC HNEHCHA HNEHCHB HNEHAHB HNEHAHC
  refine q03 (i:=14) (by kernel_rfl) rfl ?_
  intro K hK
  go_simp
  have HCW:Hid _:=q0Y w11 p2 0 b2 0 bx 2 0 ya xb KB (by omega) HB02.out HB21.out HC11.out.2.1 (G.lt hS11 hby) (G.lt hS11 hbx) HC11.out.2.2 (IntIs.G HY0.out hby hS11) (IntIs.G HX2.out hbx hS11)
  go_wp2_with (go_at_call 49;refine Calls.mono (P:=Tryz.prog) HCW.out ?_;intro e w12 hx;obtain⟨rfl,hS12,hl,-,hkp⟩:=SetTo.step hS11 HC11.out hx)
  have HC12:=hid hl
  have HA12:=hid (hkp _ _ HNEHCHA.out HA11.out)
  have HB12:=hid (hkp _ _ HNEHCHB.out HB11.out)
  refine hK.out _ _ (Or.inr hS12) ?_
  clear hK K hx hl hkp HCW hS11 HA11 HB11 HC11
  refine q00 (l':=#[true,true,true,true,true,true,true,true,true,true,true,true,true,true,true,false,false]) (by kernel_rfl) ?_
  revert HNEHAHC
  revert HNEHAHB
  revert HNEHCHB
  revert HNEHCHA
  revert HNEHBHC
  revert HNEHBHA
  revert HC12
  revert HB12
  revert HA12
  revert hS12
  revert p2
  revert p1
  revert p0
  revert w12
  exact LSabcdemn.out
  refine Later.mk ?_
  intro w12 p0 p1 p2 hS12 HA12 HB12 HC12 HNEHBHA HNEHBHC HNEHCHA HNEHCHB HNEHAHB HNEHAHC
  refine q03 (i:=15) (by kernel_rfl) rfl ?_
  intro K hK
  go_simp
  have HCW:Hid _:=qaQ w12 p0 0 p1 0 p2 0 0 (xa*(yb:Int)) (ya*(xb:Int)) (2*KB) (by omega) HN1.out HN2.out HA12.out.2.1 HB12.out.2.1 HC12.out.2.1 HA12.out.2.2 HB12.out.2.2 HC12.out.2.2
  go_wp2_with (go_at_call 67;refine Calls.mono (P:=Tryz.prog) HCW.out ?_;intro e w13 hx;obtain⟨rfl,hS13,hl,-,hkp⟩:=SetTo.step hS12 HA12.out hx)
  have HA13:=hid hl
  have HB13:=hid (hkp _ _ HNEHAHB.out HB12.out)
  have HC13:=hid (hkp _ _ HNEHAHC.out HC12.out)
  refine hK.out _ _ (Or.inl (by decide)) ?_
  clear hK K hx hl hkp HCW hS12 HA12 HB12 HC12
  refine q03 (i:=16) (by kernel_rfl) rfl ?_
  intro K hK
  go_simp
  refine hK.out _ _ (Or.inl (by decide)) ?_
  clear hK K
  refine q0i (by kernel_rfl) ?_ _
  revert HNEHAHC
  revert HNEHAHB
  revert HNEHCHB
  revert HNEHCHA
  revert HNEHBHC
  revert HNEHBHA
  revert HC13
  revert HB13
  revert HA13
  revert hS13
  revert p2
  revert p1
  revert p0
  revert w13
  exact LX.out
 ·skip
  refine Later.mk ?_
  intro w13 p0 p1 p2 hS13 HA13 HB13 HC13 HNEHBHA HNEHBHC HNEHCHA HNEHCHB HNEHAHB HNEHAHC
  clear HNEHAHB HNEHAHC HNEHBHA HNEHBHC HNEHCHA HNEHCHB
  have HS:=HA13.out
  have hG:=hS13
  clear HA13 HB13 HC13 hS13
  have HS0:Hid (NI w w13 p0 (xa*(yb:Int)-ya*(xb:Int))):=HS
  clear HS
  go_wp2_with fail
  have hn0:=NI.new hG 38
  have hal:=(G.refl w13).alloc (.cells #[.bool false,.slice none 0 0] 38)
  have hG1:=G.trans hG hal
  have hs1:=HS0.out.G hal
  have hne:p0≠w13.heap.size:=by have:=HS0.out.2.1;omega
  generalize w13.heap.size=pd at *
  generalize w13.alloc (.cells #[.bool false,.slice none 0 0] 38)=v1 at *
  have HP1:Hid (NI w v1 pd 0):=hn0
  have HS1:Hid (NI w v1 p0 (xa*(yb:Int)-ya*(xb:Int))):=hs1
  clear hn0 hal hs1 hG HS0
  refine Calls.mono (P:=Tryz.prog) (q21 v1 bx xa xb hxb0 (HXR.out.G hbx hG1)) ?_
  rintro e v2 ⟨rfl,hg2⟩
  have hG2:=G.trans hG1 hg2
  have HP2:Hid (NI w v2 pd 0):=HP1.out.G hg2
  have HS2:Hid (NI w v2 p0 (xa*(yb:Int)-ya*(xb:Int))):=HS1.out.G hg2
  clear hG1 hg2 HP1 HS1
  go_wp2_with fail
  refine Calls.mono (P:=Tryz.prog) (q21 v2 b2 ya yb hyb0 (HYR.out.G hby hG2)) ?_
  rintro e v3 ⟨rfl,hg3⟩
  have hG3:=G.trans hG2 hg3
  have HP3:Hid (NI w v3 pd 0):=HP2.out.G hg3
  have HS3:Hid (NI w v3 p0 (xa*(yb:Int)-ya*(xb:Int))):=HS2.out.G hg3
  clear hG2 hg3 HP2 HS2
  have HM:Hid _:=q0Y v3 pd 0 bx 2 b2 2 0 xb yb KB (by omega) HB21.out HB22.out HP3.out.2.1 (G.lt hG3 hbx) (G.lt hG3 hby) HP3.out.2.2 (IntIs.G HX2.out hbx hG3) (IntIs.G HY2.out hby hG3)
  go_wp2_with fail
  refine Calls.mono (P:=Tryz.prog) HM.out ?_
  intro e v4 hs
  obtain⟨rfl,hG4,hp4,-,hkp⟩:=SetTo.step hG3 HP3.out hs
  have HS4:Hid (NI w v4 p0 (xa*(yb:Int)-ya*(xb:Int))):=hkp p0 _ hne HS3.out
  rw[show (xb:Int)*yb=((xb*yb:Nat):Int) from by push_cast;rfl] at hp4
  have HP4:Hid (NI w v4 pd ((xb*yb:Nat):Int)):=hp4
  clear hs hkp hp4 HM HP3 HS3 hG3 hne
  have HF:Hid _:=q19 v4 bz p0 0 pd 0 s1 s2 (xa*(yb:Int)-ya*(xb:Int)) (xb*yb) (2*KB+1) (by omega) HNS.out HD2.out HD0.out (G.lt hG4 hbz) HS4.out.2.1 HP4.out.2.1 (HZR.out.G hbz hG4) HS4.out.2.2 HP4.out.2.2
  go_wp2_with fail
  refine Calls.mono (P:=Tryz.prog) HF.out ?_
  intro e v5 hs
  obtain⟨rfl,k1,k2⟩:=NormTo.after hG4 hs
  have HK2:Hid _:=k2
  clear hs k2 HF HS4 HP4
  go_wp2_with fail
  go_ret
  exact⟨rfl,k1,HK2.out⟩
/-- den: of a new Rat it is a new 1. -/
theorem qbx (w:World) (b:Nat) (xb:Nat) (hxb:xb=1) (h:RatIs w b 0 0):
  Calls Tryz.prog 50 #[.pointer (some ⟨b,0,none⟩)] w (RetI w (xb:Int)):=by
 obtain⟨-,n,v,a,⟨c1,c2,-,-⟩,⟨l,hl,hcl,hlv⟩,h1,-⟩:=h
 have ha:=q0S h1
 obtain⟨p,c,rfl,-,-⟩:=q0o hl
 have hl0:l.length=0:=by
  have h0:val l=0:=by rw[hlv];omega
  rw[(q1c hcl).1 h0]
  rfl
 rw[hl0] at c2
 have HN:Hid _:=q2v w (xb:Int) ⟨by omega,by omega⟩
 rw[hxb] at HN ⊢
 clear hl hcl hlv h1 ha hl0
 go_enter Tryz.func50,Tryz.ntmps50
 go_wp2_with fail
 refine Calls.mono (P:=Tryz.prog) HN.out ?_
 rintro e w2 ⟨p,rfl,k1,k2,k3,k4⟩
 have HK:Hid _:=k4
 clear k4 HN
 go_wp2_with fail
 go_ret
 exact⟨p,rfl,k1,k2,k3,HK.out⟩
/-- A Rat, laid or new (then it is 0). -/
def RatV (w:World) (b:Nat) (xa:Int) (xb:Nat):Prop:=RatIs w b xa (xb:Int)∨(xa=0∧xb=1∧RatIs w b 0 0)
theorem RatV.G {w w':World} {b:Nat} {xa:Int} {xb:Nat} (h:RatV w b xa xb) (hb:b<w.heap.size) (g:G w w'):RatV w' b xa xb:=by
 rcases h with h|⟨h1,h2,h⟩
 ·exact Or.inl (RatIs.G h hb g)
 ·exact Or.inr ⟨h1,h2,RatIs.G h hb g⟩
theorem RatV.num {w:World} {b:Nat} {xa:Int} {xb:Nat} (h:RatV w b xa xb):IntIs w b 0 xa:=by
 rcases h with h|⟨h1,-,h⟩
 ·exact h.1
 ·rw[h1];exact h.1
/-- A lower part: in the Rat itself, or new. -/
def DI (w0 w:World) (p o:Nat) (s:Int):Prop:=(p<w0.heap.size∧IntIs w0 p o s)∨(o=0∧NI w0 w p s)
theorem DI.G {w0 w w':World} {p o:Nat} {s:Int} (h:DI w0 w p o s) (g:Go.Proofs.YtljkfjjchkehaaaGreatDoor.G w w'):DI w0 w' p o s:=by
 rcases h with h|⟨h1,h2⟩
 ·exact Or.inl h
 ·exact Or.inr ⟨h1,h2.G g⟩
theorem DI.is {w0 w:World} {p o:Nat} {s:Int} (h:DI w0 w p o s) (g:Go.Proofs.YtljkfjjchkehaaaGreatDoor.G w0 w):p<w.heap.size∧IntIs w p o s:=by
 rcases h with ⟨h1,h2⟩|⟨rfl,h2⟩
 ·exact⟨G.lt g h1,IntIs.G h2 h1 g⟩
 ·exact h2.2
theorem DI.keep {w0 w w':World} {p o:Nat} {s:Int} (h:DI w0 w p o s) (k:NI w0 w p s→NI w0 w' p s):DI w0 w' p o s:=by
 rcases h with h|⟨h1,h2⟩
 ·exact Or.inl h
 ·exact Or.inr ⟨h1,k h2⟩
theorem q0H (w0 w:World) (g:G w0 w) (b:Nat) (xa:Int) (xb:Nat) (hxb:0<xb) (hb:b<w0.heap.size) (h:RatV w0 b xa xb):
  Calls Tryz.prog 50 #[.pointer (some ⟨b,0,none⟩)] w fun e w'=>∃ p o,e= .returned (.pointer (some ⟨p,o,none⟩))∧G w w'∧DI w0 w' p o (xb:Int)∧(p<w0.heap.size∨w.heap.size≤p):=by
 rcases h with h|⟨-,h2,h⟩
 ·refine Calls.mono (P:=Tryz.prog) (q21 w b xa xb (by omega) (h.G hb g)) ?_
  rintro e w' ⟨rfl,g'⟩
  exact⟨b,2,rfl,g',Or.inl ⟨hb,h.2⟩,Or.inl hb⟩
 ·refine Calls.mono (P:=Tryz.prog) (qbx w b xb h2 (h.G hb g)) ?_
  rintro e w' ⟨p,rfl,g',k1,k2,k3⟩
  exact⟨p,0,rfl,g',Or.inr ⟨rfl,Nat.le_trans g.size k1,k2,k3⟩,Or.inr k1⟩
set_option maxRecDepth 10000 in
set_option maxHeartbeats 8000000 in
theorem qbS (w:World) (bz bx b2:Nat) (s1 s2 xa ya:Int) (xb yb:Nat) (KB:Nat) (hK:KB≤100000) (hx2:xa.natAbs<2^(32*KB)) (hy2:ya.natAbs<2^(32*KB)) (hxb2:xb<2^(32*KB)) (hyb2:yb<2^(32*KB)) (hxb:0<xb) (hyb:0<yb)
  (hbz:bz<w.heap.size) (hbx:bx<w.heap.size) (hby:b2<w.heap.size) (hz:RatIs w bz s1 s2) (hx:RatV w bx xa xb) (hy:RatV w b2 ya yb):
  Calls Tryz.prog 29 #[.pointer (some ⟨bz,0,none⟩),.pointer (some ⟨bx,0,none⟩),.pointer (some ⟨b2,0,none⟩)] w (NormTo w bz (Int.tdiv (xa*(yb:Int)+ya*(xb:Int)) (Nat.gcd (xa*(yb:Int)+ya*(xb:Int)).natAbs (xb*yb):Nat)) (xb*yb/Nat.gcd (xa*(yb:Int)+ya*(xb:Int)).natAbs (xb*yb))):=by
 have HB01:Hid (xa.natAbs<2^(32*KB)):=hx2
 have HB02:Hid (ya.natAbs<2^(32*KB)):=hy2
 have HB21:Hid ((xb:Int).natAbs<2^(32*KB)):=by show (xb:Int).natAbs<2^(32*KB);rw[Int.natAbs_natCast];exact hxb2
 have HB22:Hid ((yb:Int).natAbs<2^(32*KB)):=by show (yb:Int).natAbs<2^(32*KB);rw[Int.natAbs_natCast];exact hyb2
 have HX0:Hid (IntIs w bx 0 xa):=hx.num
 have HY0:Hid (IntIs w b2 0 ya):=hy.num
 have HXR:Hid (RatV w bx xa xb):=hx
 have HYR:Hid (RatV w b2 ya yb):=hy
 have HZR:Hid (RatIs w bz s1 s2):=hz
 have hxb0:0<xb:=hxb
 have hyb0:0<yb:=hyb
 have h2k:32*(2*KB)=32*KB+32*KB:=by omega
 have hn1:(xa*(yb:Int)).natAbs<2^(32*(2*KB)):=by
  rw[Int.natAbs_mul,Int.natAbs_natCast,h2k,Nat.pow_add]
  exact Nat.mul_lt_mul'' hx2 hyb2
 have hn2:(ya*(xb:Int)).natAbs<2^(32*(2*KB)):=by
  rw[Int.natAbs_mul,Int.natAbs_natCast,h2k,Nat.pow_add]
  exact Nat.mul_lt_mul'' hy2 hxb2
 have hd2:xb*yb<2^(32*(2*KB)):=by
  rw[h2k,Nat.pow_add]
  exact Nat.mul_lt_mul'' hxb2 hyb2
 have hup:2^(32*(2*KB))*2≤2^(32*(2*KB+1)):=by rw[← Nat.pow_succ];exact Nat.pow_le_pow_right (by omega) (by omega)
 have HN1:Hid ((xa*(yb:Int)).natAbs<2^(32*(2*KB))):=hn1
 have HN2:Hid ((ya*(xb:Int)).natAbs<2^(32*(2*KB))):=hn2
 have HNS:Hid ((xa*(yb:Int)+ya*(xb:Int)).natAbs<2^(32*(2*KB+1))):=by
  show (xa*(yb:Int)+ya*(xb:Int)).natAbs<2^(32*(2*KB+1))
  have:=Int.natAbs_add_le (xa*(yb:Int)) (ya*(xb:Int))
  omega
 have HD2:Hid (xb*yb<2^(32*(2*KB+1))):=by show xb*yb<2^(32*(2*KB+1));omega
 have HD0:Hid (0<xb*yb):=Nat.mul_pos hxb hyb
 clear hx hy hz hx2 hy2 hxb2 hyb2 hxb hyb h2k hn1 hn2 hd2 hup
 go_enter Tryz.func29,Tryz.ntmps29
 go_wp2_with fail
 apply share
 ·intro LX
  refine q0J 15 (G w) (by kernel_rfl) (by first|exact(G.refl _).drew|exact G.drew (by assumption)) ?_
  intro hSh
  refine q02 2 (v:= ?_) rfl (by kernel_rfl) (fun _ _ _ h=>h) rfl ?_ ‹_› ?_
  rotate_left
  ·intro wq hwq
   first|(go_simp;done)|(go_simp;with_reducible rfl)
  try simp only[aput,List.set]
  refine q02 3 (v:= ?_) rfl (by kernel_rfl) (fun _ _ _ h=>h) rfl ?_ ‹_› ?_
  rotate_left
  ·intro wq hwq
   first|(go_simp;done)|(go_simp;with_reducible rfl)
  try simp only[aput,List.set]
  refine q02 4 (v:= ?_) rfl (by kernel_rfl) (fun _ _ _ h=>h) rfl ?_ ‹_› ?_
  rotate_left
  ·intro wq hwq
   first|(go_simp;done)|(go_simp;with_reducible rfl)
  try simp only[aput,List.set]
  refine q02 5 (v:= ?_) rfl (by kernel_rfl) (fun _ _ _ h=>h) rfl ?_ ‹_› ?_
  rotate_left
  ·intro wq hwq
   first|(go_simp;done)|(go_simp;with_reducible rfl)
  try simp only[aput,List.set]
  refine q02 9 (v:= ?_) rfl (by kernel_rfl) (fun _ _ _ h=>h) rfl ?_ ‹_› ?_
  rotate_left
  ·intro wq hwq
   first|(go_simp;done)|(go_simp;with_reducible rfl)
  try simp only[aput,List.set]
  refine q02 10 (v:= ?_) rfl (by kernel_rfl) (fun _ _ _ h=>h) rfl ?_ ‹_› ?_
  rotate_left
  ·intro wq hwq
   first|(go_simp;done)|(go_simp;with_reducible rfl)
  try simp only[aput,List.set]
  refine q02 11 (v:= ?_) rfl (by kernel_rfl) (fun _ _ _ h=>h) rfl ?_ ‹_› ?_
  rotate_left
  ·intro wq hwq
   first|(go_simp;done)|(go_simp;with_reducible rfl)
  try simp only[aput,List.set]
  refine q02 12 (v:= ?_) rfl (by kernel_rfl) (fun _ _ _ h=>h) rfl ?_ ‹_› ?_
  rotate_left
  ·intro wq hwq
   first|(go_simp;done)|(go_simp;with_reducible rfl)
  try simp only[aput,List.set]
  show q0C _ _ _ _ _ _ _ _ _ w.drew
  have hS5:=hSh
  generalize w.drew=w5 at *
  clear hSh
  apply share
  intro LSabcdemn
  apply share
  intro LSabcdem
  apply share
  intro LSabcdm
  apply share
  intro LSabdem
  apply share
  intro LSbcdem
  apply share
  intro LSabcd
  apply share
  intro LSabdm
  apply share
  intro LSbcdm
  apply share
  intro LSabc
  apply share
  intro LSabd
  apply share
  intro LSacd
  apply share
  intro LSbcd
  apply share
  intro LSab
  apply share
  intro LSac
  apply share
  intro LSad
  apply share
  intro LSbc
  apply share
  intro LSbd
  apply share
  intro LScd
  refine q37 (i:=0) (j:=1) (l:=6) (m:=8) (by kernel_rfl) rfl rfl rfl rfl ?_ ?_ ?_ ?_
  ·skip
   intro K hK
   go_simp
   refine hK.out _ _ (Or.inr (hS5.alloc _)) ?_
   clear hK K
   have hn:=NI.new hS5 38
   have hal:=(G.refl w5).alloc (.cells #[.bool false,.slice none 0 0] 38)
   have hS6:=G.trans hS5 hal
   generalize w5.heap.size=p0 at *
   generalize w5.alloc (.cells #[.bool false,.slice none 0 0] 38)=w6 at *
   have HA6:=hid hn
   clear hn hal
   refine q0l (i:=1) (j:=6) (l:=8) (by kernel_rfl) rfl rfl rfl ?_ ?_ ?_
   ·skip
    intro K hK
    go_simp
    refine hK.out _ _ (Or.inr (hS6.alloc _)) ?_
    clear hK K
    have hn:=NI.new hS6 38
    have hal:=(G.refl w6).alloc (.cells #[.bool false,.slice none 0 0] 38)
    have hS7:=G.trans hS6 hal
    have HA7:=hid (HA6.out.G hal)
    have hneHA:w6.heap.size≠p0:=by have:=HA6.out.2.1;omega
    generalize w6.heap.size=p1 at *
    generalize w6.alloc (.cells #[.bool false,.slice none 0 0] 38)=w7 at *
    have HB7:=hid hn
    have HNEHBHA:Hid (p0≠p1):=hneHA.symm
    have HNEHAHB:Hid (p1≠p0):=hneHA
    clear hn hal hS6 HA6 hneHA
    refine q00 (l':=#[true,true,true,true,true,true,false,false,false,true,true,true,true,false,false,false,false]) (by kernel_rfl) ?_
    revert HNEHAHB
    revert HNEHBHA
    revert HB7
    revert HA7
    revert hS7
    revert p1
    revert p0
    revert w7
    exact LSab.out
   ·skip
    intro K hK
    go_simp
    go_wp2_with (go_at_call 50;refine Calls.mono (P:=Tryz.prog) (q0H w w6 hS6 b2 ya yb hyb0 hby HYR.out) ?_;intro e w7 hx;obtain⟨p4,o4,rfl,hg,h72,h73⟩:=hx)
    refine hK.out _ _ (Or.inr (G.trans hS6 hg)) ?_
    clear hK K
    have hS7:=G.trans hS6 hg
    have HD7:=hid h72
    have hneHA:p4≠p0:=by have h1:=HA6.out.1;have h2:=HA6.out.2.1;omega
    have HA7:=hid (HA6.out.G hg)
    have HNEHAHD:Hid (p4≠p0):=hneHA
    clear hg h72 h73 hS6 HA6 hneHA
    refine q00 (l':=#[true,false,true,true,true,true,true,false,false,true,true,true,true,false,false,false,false]) (by kernel_rfl) ?_
    revert HNEHAHD
    revert HD7
    revert HA7
    revert hS7
    revert o4
    revert p4
    revert p0
    revert w7
    exact LSad.out
   ·skip
    intro K hK
    go_simp
    refine hK.out _ _ (Or.inr (hS6.alloc _)) ?_
    clear hK K
    have hn:=NI.new hS6 38
    have hal:=(G.refl w6).alloc (.cells #[.bool false,.slice none 0 0] 38)
    have hS7:=G.trans hS6 hal
    have HA7:=hid (HA6.out.G hal)
    have hneHA:w6.heap.size≠p0:=by have:=HA6.out.2.1;omega
    generalize w6.heap.size=p2 at *
    generalize w6.alloc (.cells #[.bool false,.slice none 0 0] 38)=w7 at *
    have HC7:=hid hn
    have HNEHCHA:Hid (p0≠p2):=hneHA.symm
    have HNEHAHC:Hid (p2≠p0):=hneHA
    clear hn hal hS6 HA6 hneHA
    refine q00 (l':=#[true,false,true,true,true,true,false,false,true,true,true,true,true,false,false,false,false]) (by kernel_rfl) ?_
    revert HNEHAHC
    revert HNEHCHA
    revert HC7
    revert HA7
    revert hS7
    revert p2
    revert p0
    revert w7
    exact LSac.out
  ·skip
   intro K hK
   go_simp
   refine hK.out _ _ (Or.inr (hS5.alloc _)) ?_
   clear hK K
   have hn:=NI.new hS5 38
   have hal:=(G.refl w5).alloc (.cells #[.bool false,.slice none 0 0] 38)
   have hS6:=G.trans hS5 hal
   generalize w5.heap.size=p1 at *
   generalize w5.alloc (.cells #[.bool false,.slice none 0 0] 38)=w6 at *
   have HB6:=hid hn
   clear hn hal
   refine q0l (i:=0) (j:=6) (l:=8) (by kernel_rfl) rfl rfl rfl ?_ ?_ ?_
   ·skip
    intro K hK
    go_simp
    refine hK.out _ _ (Or.inr (hS6.alloc _)) ?_
    clear hK K
    have hn:=NI.new hS6 38
    have hal:=(G.refl w6).alloc (.cells #[.bool false,.slice none 0 0] 38)
    have hS7:=G.trans hS6 hal
    have HB7:=hid (HB6.out.G hal)
    have hneHB:w6.heap.size≠p1:=by have:=HB6.out.2.1;omega
    generalize w6.heap.size=p0 at *
    generalize w6.alloc (.cells #[.bool false,.slice none 0 0] 38)=w7 at *
    have HA7:=hid hn
    have HNEHAHB:Hid (p1≠p0):=hneHB.symm
    have HNEHBHA:Hid (p0≠p1):=hneHB
    clear hn hal hS6 HB6 hneHB
    refine q00 (l':=#[true,true,true,true,true,true,false,false,false,true,true,true,true,false,false,false,false]) (by kernel_rfl) ?_
    revert HNEHAHB
    revert HNEHBHA
    revert HB7
    revert HA7
    revert hS7
    revert p1
    revert p0
    revert w7
    exact LSab.out
   ·skip
    intro K hK
    go_simp
    go_wp2_with (go_at_call 50;refine Calls.mono (P:=Tryz.prog) (q0H w w6 hS6 b2 ya yb hyb0 hby HYR.out) ?_;intro e w7 hx;obtain⟨p4,o4,rfl,hg,h72,h73⟩:=hx)
    refine hK.out _ _ (Or.inr (G.trans hS6 hg)) ?_
    clear hK K
    have hS7:=G.trans hS6 hg
    have HD7:=hid h72
    have hneHB:p4≠p1:=by have h1:=HB6.out.1;have h2:=HB6.out.2.1;omega
    have HB7:=hid (HB6.out.G hg)
    have HNEHBHD:Hid (p4≠p1):=hneHB
    clear hg h72 h73 hS6 HB6 hneHB
    refine q00 (l':=#[false,true,true,true,true,true,true,false,false,true,true,true,true,false,false,false,false]) (by kernel_rfl) ?_
    revert HNEHBHD
    revert HD7
    revert HB7
    revert hS7
    revert o4
    revert p4
    revert p1
    revert w7
    exact LSbd.out
   ·skip
    intro K hK
    go_simp
    refine hK.out _ _ (Or.inr (hS6.alloc _)) ?_
    clear hK K
    have hn:=NI.new hS6 38
    have hal:=(G.refl w6).alloc (.cells #[.bool false,.slice none 0 0] 38)
    have hS7:=G.trans hS6 hal
    have HB7:=hid (HB6.out.G hal)
    have hneHB:w6.heap.size≠p1:=by have:=HB6.out.2.1;omega
    generalize w6.heap.size=p2 at *
    generalize w6.alloc (.cells #[.bool false,.slice none 0 0] 38)=w7 at *
    have HC7:=hid hn
    have HNEHCHB:Hid (p1≠p2):=hneHB.symm
    have HNEHBHC:Hid (p2≠p1):=hneHB
    clear hn hal hS6 HB6 hneHB
    refine q00 (l':=#[false,true,true,true,true,true,false,false,true,true,true,true,true,false,false,false,false]) (by kernel_rfl) ?_
    revert HNEHCHB
    revert HNEHBHC
    revert HC7
    revert HB7
    revert hS7
    revert p2
    revert p1
    revert w7
    exact LSbc.out
  ·skip
   intro K hK
   go_simp
   go_wp2_with (go_at_call 50;refine Calls.mono (P:=Tryz.prog) (q0H w w5 hS5 b2 ya yb hyb0 hby HYR.out) ?_;intro e w6 hx;obtain⟨p4,o4,rfl,hg,h72,h73⟩:=hx)
   refine hK.out _ _ (Or.inr (G.trans hS5 hg)) ?_
   clear hK K
   have hS6:=G.trans hS5 hg
   have HD6:=hid h72
   clear hg h72 h73
   refine q0l (i:=0) (j:=1) (l:=8) (by kernel_rfl) rfl rfl rfl ?_ ?_ ?_
   ·skip
    intro K hK
    go_simp
    refine hK.out _ _ (Or.inr (hS6.alloc _)) ?_
    clear hK K
    have hn:=NI.new hS6 38
    have hal:=(G.refl w6).alloc (.cells #[.bool false,.slice none 0 0] 38)
    have hS7:=G.trans hS6 hal
    have HD7:=hid (HD6.out.G hal)
    have hneHD:w6.heap.size≠p4:=by have:=(HD6.out.is hS6).1;omega
    generalize w6.heap.size=p0 at *
    generalize w6.alloc (.cells #[.bool false,.slice none 0 0] 38)=w7 at *
    have HA7:=hid hn
    have HNEHAHD:Hid (p4≠p0):=hneHD.symm
    clear hn hal hS6 HD6 hneHD
    refine q00 (l':=#[true,false,true,true,true,true,true,false,false,true,true,true,true,false,false,false,false]) (by kernel_rfl) ?_
    revert HNEHAHD
    revert HD7
    revert HA7
    revert hS7
    revert o4
    revert p4
    revert p0
    revert w7
    exact LSad.out
   ·skip
    intro K hK
    go_simp
    refine hK.out _ _ (Or.inr (hS6.alloc _)) ?_
    clear hK K
    have hn:=NI.new hS6 38
    have hal:=(G.refl w6).alloc (.cells #[.bool false,.slice none 0 0] 38)
    have hS7:=G.trans hS6 hal
    have HD7:=hid (HD6.out.G hal)
    have hneHD:w6.heap.size≠p4:=by have:=(HD6.out.is hS6).1;omega
    generalize w6.heap.size=p1 at *
    generalize w6.alloc (.cells #[.bool false,.slice none 0 0] 38)=w7 at *
    have HB7:=hid hn
    have HNEHBHD:Hid (p4≠p1):=hneHD.symm
    clear hn hal hS6 HD6 hneHD
    refine q00 (l':=#[false,true,true,true,true,true,true,false,false,true,true,true,true,false,false,false,false]) (by kernel_rfl) ?_
    revert HNEHBHD
    revert HD7
    revert HB7
    revert hS7
    revert o4
    revert p4
    revert p1
    revert w7
    exact LSbd.out
   ·skip
    intro K hK
    go_simp
    refine hK.out _ _ (Or.inr (hS6.alloc _)) ?_
    clear hK K
    have hn:=NI.new hS6 38
    have hal:=(G.refl w6).alloc (.cells #[.bool false,.slice none 0 0] 38)
    have hS7:=G.trans hS6 hal
    have HD7:=hid (HD6.out.G hal)
    have hneHD:w6.heap.size≠p4:=by have:=(HD6.out.is hS6).1;omega
    generalize w6.heap.size=p2 at *
    generalize w6.alloc (.cells #[.bool false,.slice none 0 0] 38)=w7 at *
    have HC7:=hid hn
    have HNEHCHD:Hid (p4≠p2):=hneHD.symm
    clear hn hal hS6 HD6 hneHD
    refine q00 (l':=#[false,false,true,true,true,true,true,false,true,true,true,true,true,false,false,false,false]) (by kernel_rfl) ?_
    revert HNEHCHD
    revert HC7
    revert HD7
    revert hS7
    revert p2
    revert o4
    revert p4
    revert w7
    exact LScd.out
  ·skip
   intro K hK
   go_simp
   refine hK.out _ _ (Or.inr (hS5.alloc _)) ?_
   clear hK K
   have hn:=NI.new hS5 38
   have hal:=(G.refl w5).alloc (.cells #[.bool false,.slice none 0 0] 38)
   have hS6:=G.trans hS5 hal
   generalize w5.heap.size=p2 at *
   generalize w5.alloc (.cells #[.bool false,.slice none 0 0] 38)=w6 at *
   have HC6:=hid hn
   clear hn hal
   refine q0l (i:=0) (j:=1) (l:=6) (by kernel_rfl) rfl rfl rfl ?_ ?_ ?_
   ·skip
    intro K hK
    go_simp
    refine hK.out _ _ (Or.inr (hS6.alloc _)) ?_
    clear hK K
    have hn:=NI.new hS6 38
    have hal:=(G.refl w6).alloc (.cells #[.bool false,.slice none 0 0] 38)
    have hS7:=G.trans hS6 hal
    have HC7:=hid (HC6.out.G hal)
    have hneHC:w6.heap.size≠p2:=by have:=HC6.out.2.1;omega
    generalize w6.heap.size=p0 at *
    generalize w6.alloc (.cells #[.bool false,.slice none 0 0] 38)=w7 at *
    have HA7:=hid hn
    have HNEHAHC:Hid (p2≠p0):=hneHC.symm
    have HNEHCHA:Hid (p0≠p2):=hneHC
    clear hn hal hS6 HC6 hneHC
    refine q00 (l':=#[true,false,true,true,true,true,false,false,true,true,true,true,true,false,false,false,false]) (by kernel_rfl) ?_
    revert HNEHAHC
    revert HNEHCHA
    revert HC7
    revert HA7
    revert hS7
    revert p2
    revert p0
    revert w7
    exact LSac.out
   ·skip
    intro K hK
    go_simp
    refine hK.out _ _ (Or.inr (hS6.alloc _)) ?_
    clear hK K
    have hn:=NI.new hS6 38
    have hal:=(G.refl w6).alloc (.cells #[.bool false,.slice none 0 0] 38)
    have hS7:=G.trans hS6 hal
    have HC7:=hid (HC6.out.G hal)
    have hneHC:w6.heap.size≠p2:=by have:=HC6.out.2.1;omega
    generalize w6.heap.size=p1 at *
    generalize w6.alloc (.cells #[.bool false,.slice none 0 0] 38)=w7 at *
    have HB7:=hid hn
    have HNEHBHC:Hid (p2≠p1):=hneHC.symm
    have HNEHCHB:Hid (p1≠p2):=hneHC
    clear hn hal hS6 HC6 hneHC
    refine q00 (l':=#[false,true,true,true,true,true,false,false,true,true,true,true,true,false,false,false,false]) (by kernel_rfl) ?_
    revert HNEHCHB
    revert HNEHBHC
    revert HC7
    revert HB7
    revert hS7
    revert p2
    revert p1
    revert w7
    exact LSbc.out
   ·skip
    intro K hK
    go_simp
    go_wp2_with (go_at_call 50;refine Calls.mono (P:=Tryz.prog) (q0H w w6 hS6 b2 ya yb hyb0 hby HYR.out) ?_;intro e w7 hx;obtain⟨p4,o4,rfl,hg,h72,h73⟩:=hx)
    refine hK.out _ _ (Or.inr (G.trans hS6 hg)) ?_
    clear hK K
    have hS7:=G.trans hS6 hg
    have HD7:=hid h72
    have hneHC:p4≠p2:=by have h1:=HC6.out.1;have h2:=HC6.out.2.1;omega
    have HC7:=hid (HC6.out.G hg)
    have HNEHCHD:Hid (p4≠p2):=hneHC
    clear hg h72 h73 hS6 HC6 hneHC
    refine q00 (l':=#[false,false,true,true,true,true,true,false,true,true,true,true,true,false,false,false,false]) (by kernel_rfl) ?_
    revert HNEHCHD
    revert HC7
    revert HD7
    revert hS7
    revert p2
    revert o4
    revert p4
    revert w7
    exact LScd.out
  refine Later.mk ?_
  intro w7 p4 o4 p2 hS7 HD7 HC7 HNEHCHD
  refine q07 (i:=0) (j:=1) (by kernel_rfl) rfl rfl ?_ ?_
  ·skip
   intro K hK
   go_simp
   refine hK.out _ _ (Or.inr (hS7.alloc _)) ?_
   clear hK K
   have hn:=NI.new hS7 38
   have hal:=(G.refl w7).alloc (.cells #[.bool false,.slice none 0 0] 38)
   have hS8:=G.trans hS7 hal
   have HD8:=hid (HD7.out.G hal)
   have HC8:=hid (HC7.out.G hal)
   have hneHD:w7.heap.size≠p4:=by have:=(HD7.out.is hS7).1;omega
   have hneHC:w7.heap.size≠p2:=by have:=HC7.out.2.1;omega
   generalize w7.heap.size=p0 at *
   generalize w7.alloc (.cells #[.bool false,.slice none 0 0] 38)=w8 at *
   have HA8:=hid hn
   have HNEHAHD:Hid (p4≠p0):=hneHD.symm
   have HNEHAHC:Hid (p2≠p0):=hneHC.symm
   have HNEHCHA:Hid (p0≠p2):=hneHC
   clear hn hal hS7 HD7 HC7 hneHD hneHC
   refine q00 (l':=#[true,false,true,true,true,true,true,false,true,true,true,true,true,false,false,false,false]) (by kernel_rfl) ?_
   revert HNEHAHC
   revert HNEHAHD
   revert HNEHCHD
   revert HNEHCHA
   revert HC8
   revert HD8
   revert HA8
   revert hS8
   revert p2
   revert o4
   revert p4
   revert p0
   revert w8
   exact LSacd.out
  ·skip
   intro K hK
   go_simp
   refine hK.out _ _ (Or.inr (hS7.alloc _)) ?_
   clear hK K
   have hn:=NI.new hS7 38
   have hal:=(G.refl w7).alloc (.cells #[.bool false,.slice none 0 0] 38)
   have hS8:=G.trans hS7 hal
   have HD8:=hid (HD7.out.G hal)
   have HC8:=hid (HC7.out.G hal)
   have hneHD:w7.heap.size≠p4:=by have:=(HD7.out.is hS7).1;omega
   have hneHC:w7.heap.size≠p2:=by have:=HC7.out.2.1;omega
   generalize w7.heap.size=p1 at *
   generalize w7.alloc (.cells #[.bool false,.slice none 0 0] 38)=w8 at *
   have HB8:=hid hn
   have HNEHBHD:Hid (p4≠p1):=hneHD.symm
   have HNEHBHC:Hid (p2≠p1):=hneHC.symm
   have HNEHCHB:Hid (p1≠p2):=hneHC
   clear hn hal hS7 HD7 HC7 hneHD hneHC
   refine q00 (l':=#[false,true,true,true,true,true,true,false,true,true,true,true,true,false,false,false,false]) (by kernel_rfl) ?_
   revert HNEHCHD
   revert HNEHCHB
   revert HNEHBHC
   revert HNEHBHD
   revert HC8
   revert HD8
   revert HB8
   revert hS8
   revert p2
   revert o4
   revert p4
   revert p1
   revert w8
   exact LSbcd.out
  refine Later.mk ?_
  intro w7 p1 p4 o4 hS7 HB7 HD7 HNEHBHD
  refine q0l (i:=0) (j:=7) (l:=8) (by kernel_rfl) rfl rfl rfl ?_ ?_ ?_
  ·skip
   intro K hK
   go_simp
   refine hK.out _ _ (Or.inr (hS7.alloc _)) ?_
   clear hK K
   have hn:=NI.new hS7 38
   have hal:=(G.refl w7).alloc (.cells #[.bool false,.slice none 0 0] 38)
   have hS8:=G.trans hS7 hal
   have HB8:=hid (HB7.out.G hal)
   have HD8:=hid (HD7.out.G hal)
   have hneHB:w7.heap.size≠p1:=by have:=HB7.out.2.1;omega
   have hneHD:w7.heap.size≠p4:=by have:=(HD7.out.is hS7).1;omega
   generalize w7.heap.size=p0 at *
   generalize w7.alloc (.cells #[.bool false,.slice none 0 0] 38)=w8 at *
   have HA8:=hid hn
   have HNEHAHB:Hid (p1≠p0):=hneHB.symm
   have HNEHBHA:Hid (p0≠p1):=hneHB
   have HNEHAHD:Hid (p4≠p0):=hneHD.symm
   clear hn hal hS7 HB7 HD7 hneHB hneHD
   refine q00 (l':=#[true,true,true,true,true,true,true,false,false,true,true,true,true,false,false,false,false]) (by kernel_rfl) ?_
   revert HNEHAHD
   revert HNEHAHB
   revert HNEHBHD
   revert HNEHBHA
   revert HD8
   revert HB8
   revert HA8
   revert hS8
   revert o4
   revert p4
   revert p1
   revert p0
   revert w8
   exact LSabd.out
  ·skip
   intro K hK
   go_simp
   have HCW:Hid _:=q0Y w7 p1 0 bx 0 p4 o4 0 xa yb KB (by omega) HB01.out HB22.out HB7.out.2.1 (G.lt hS7 hbx) (HD7.out.is hS7).1 HB7.out.2.2 (IntIs.G HX0.out hbx hS7) (HD7.out.is hS7).2
   go_wp2_with (go_at_call 49;refine Calls.mono (P:=Tryz.prog) HCW.out ?_;intro e w8 hx;obtain⟨rfl,hS8,hl,-,hkp⟩:=SetTo.step hS7 HB7.out hx)
   have HB8:=hid hl
   have HD8:=hid (DI.keep HD7.out (hkp _ _ HNEHBHD.out))
   refine hK.out _ _ (Or.inr hS8) ?_
   clear hK K hx hl hkp HCW hS7 HB7 HD7
   refine q0l (i:=0) (j:=8) (l:=13) (by kernel_rfl) rfl rfl rfl ?_ ?_ ?_
   ·skip
    intro K hK
    go_simp
    refine hK.out _ _ (Or.inr (hS8.alloc _)) ?_
    clear hK K
    have hn:=NI.new hS8 38
    have hal:=(G.refl w8).alloc (.cells #[.bool false,.slice none 0 0] 38)
    have hS9:=G.trans hS8 hal
    have HB9:=hid (HB8.out.G hal)
    have HD9:=hid (HD8.out.G hal)
    have hneHB:w8.heap.size≠p1:=by have:=HB8.out.2.1;omega
    have hneHD:w8.heap.size≠p4:=by have:=(HD8.out.is hS8).1;omega
    generalize w8.heap.size=p0 at *
    generalize w8.alloc (.cells #[.bool false,.slice none 0 0] 38)=w9 at *
    have HA9:=hid hn
    have HNEHAHB:Hid (p1≠p0):=hneHB.symm
    have HNEHBHA:Hid (p0≠p1):=hneHB
    have HNEHAHD:Hid (p4≠p0):=hneHD.symm
    clear hn hal hS8 HB8 HD8 hneHB hneHD
    refine q00 (l':=#[true,true,true,true,true,true,true,true,false,true,true,true,true,false,false,false,false]) (by kernel_rfl) ?_
    revert HNEHAHD
    revert HNEHAHB
    revert HNEHBHD
    revert HNEHBHA
    revert HD9
    revert HB9
    revert HA9
    revert hS9
    revert o4
    revert p4
    revert p1
    revert p0
    revert w9
    exact LSabdm.out
   ·skip
    intro K hK
    go_simp
    refine hK.out _ _ (Or.inr (hS8.alloc _)) ?_
    clear hK K
    have hn:=NI.new hS8 38
    have hal:=(G.refl w8).alloc (.cells #[.bool false,.slice none 0 0] 38)
    have hS9:=G.trans hS8 hal
    have HB9:=hid (HB8.out.G hal)
    have HD9:=hid (HD8.out.G hal)
    have hneHB:w8.heap.size≠p1:=by have:=HB8.out.2.1;omega
    have hneHD:w8.heap.size≠p4:=by have:=(HD8.out.is hS8).1;omega
    generalize w8.heap.size=p2 at *
    generalize w8.alloc (.cells #[.bool false,.slice none 0 0] 38)=w9 at *
    have HC9:=hid hn
    have HNEHCHB:Hid (p1≠p2):=hneHB.symm
    have HNEHBHC:Hid (p2≠p1):=hneHB
    have HNEHCHD:Hid (p4≠p2):=hneHD.symm
    clear hn hal hS8 HB8 HD8 hneHB hneHD
    refine q00 (l':=#[false,true,true,true,true,true,true,true,true,true,true,true,true,false,false,false,false]) (by kernel_rfl) ?_
    revert HNEHCHD
    revert HNEHCHB
    revert HNEHBHC
    revert HNEHBHD
    revert HC9
    revert HD9
    revert HB9
    revert hS9
    revert p2
    revert o4
    revert p4
    revert p1
    revert w9
    exact LSbcdm.out
   ·skip
    intro K hK
    go_simp
    go_wp2_with (go_at_call 50;refine Calls.mono (P:=Tryz.prog) (q0H w w8 hS8 bx xa xb hxb0 hbx HXR.out) ?_;intro e w9 hx;obtain⟨p3,o3,rfl,hg,h72,h73⟩:=hx)
    refine hK.out _ _ (Or.inr (G.trans hS8 hg)) ?_
    clear hK K
    have hS9:=G.trans hS8 hg
    have HE9:=hid h72
    have hneHB:p3≠p1:=by have h1:=HB8.out.1;have h2:=HB8.out.2.1;omega
    have HB9:=hid (HB8.out.G hg)
    have HD9:=hid (HD8.out.G hg)
    have HNEHBHE:Hid (p3≠p1):=hneHB
    clear hg h72 h73 hS8 HB8 HD8 hneHB
    refine q07 (i:=0) (j:=8) (by kernel_rfl) rfl rfl ?_ ?_
    ·skip
     intro K hK
     go_simp
     refine hK.out _ _ (Or.inr (hS9.alloc _)) ?_
     clear hK K
     have hn:=NI.new hS9 38
     have hal:=(G.refl w9).alloc (.cells #[.bool false,.slice none 0 0] 38)
     have hS10:=G.trans hS9 hal
     have HB10:=hid (HB9.out.G hal)
     have HD10:=hid (HD9.out.G hal)
     have HE10:=hid (HE9.out.G hal)
     have hneHB:w9.heap.size≠p1:=by have:=HB9.out.2.1;omega
     have hneHD:w9.heap.size≠p4:=by have:=(HD9.out.is hS9).1;omega
     have hneHE:w9.heap.size≠p3:=by have:=(HE9.out.is hS9).1;omega
     generalize w9.heap.size=p0 at *
     generalize w9.alloc (.cells #[.bool false,.slice none 0 0] 38)=w10 at *
     have HA10:=hid hn
     have HNEHAHB:Hid (p1≠p0):=hneHB.symm
     have HNEHBHA:Hid (p0≠p1):=hneHB
     have HNEHAHD:Hid (p4≠p0):=hneHD.symm
     have HNEHAHE:Hid (p3≠p0):=hneHE.symm
     clear hn hal hS9 HB9 HD9 HE9 hneHB hneHD hneHE
     refine q00 (l':=#[true,true,true,true,true,true,true,true,false,true,true,true,true,true,false,false,false]) (by kernel_rfl) ?_
     revert HNEHAHE
     revert HNEHAHD
     revert HNEHAHB
     revert HNEHBHE
     revert HNEHBHD
     revert HNEHBHA
     revert HE10
     revert HD10
     revert HB10
     revert HA10
     revert hS10
     revert o3
     revert p3
     revert o4
     revert p4
     revert p1
     revert p0
     revert w10
     exact LSabdem.out
    ·skip
     intro K hK
     go_simp
     refine hK.out _ _ (Or.inr (hS9.alloc _)) ?_
     clear hK K
     have hn:=NI.new hS9 38
     have hal:=(G.refl w9).alloc (.cells #[.bool false,.slice none 0 0] 38)
     have hS10:=G.trans hS9 hal
     have HB10:=hid (HB9.out.G hal)
     have HD10:=hid (HD9.out.G hal)
     have HE10:=hid (HE9.out.G hal)
     have hneHB:w9.heap.size≠p1:=by have:=HB9.out.2.1;omega
     have hneHD:w9.heap.size≠p4:=by have:=(HD9.out.is hS9).1;omega
     have hneHE:w9.heap.size≠p3:=by have:=(HE9.out.is hS9).1;omega
     generalize w9.heap.size=p2 at *
     generalize w9.alloc (.cells #[.bool false,.slice none 0 0] 38)=w10 at *
     have HC10:=hid hn
     have HNEHCHB:Hid (p1≠p2):=hneHB.symm
     have HNEHBHC:Hid (p2≠p1):=hneHB
     have HNEHCHD:Hid (p4≠p2):=hneHD.symm
     have HNEHCHE:Hid (p3≠p2):=hneHE.symm
     clear hn hal hS9 HB9 HD9 HE9 hneHB hneHD hneHE
     refine q00 (l':=#[false,true,true,true,true,true,true,true,true,true,true,true,true,true,false,false,false]) (by kernel_rfl) ?_
     revert HNEHCHE
     revert HNEHCHD
     revert HNEHCHB
     revert HNEHBHE
     revert HNEHBHC
     revert HNEHBHD
     revert HE10
     revert HC10
     revert HD10
     revert HB10
     revert hS10
     revert o3
     revert p3
     revert p2
     revert o4
     revert p4
     revert p1
     revert w10
     exact LSbcdem.out
  ·skip
   intro K hK
   go_simp
   refine hK.out _ _ (Or.inr (hS7.alloc _)) ?_
   clear hK K
   have hn:=NI.new hS7 38
   have hal:=(G.refl w7).alloc (.cells #[.bool false,.slice none 0 0] 38)
   have hS8:=G.trans hS7 hal
   have HB8:=hid (HB7.out.G hal)
   have HD8:=hid (HD7.out.G hal)
   have hneHB:w7.heap.size≠p1:=by have:=HB7.out.2.1;omega
   have hneHD:w7.heap.size≠p4:=by have:=(HD7.out.is hS7).1;omega
   generalize w7.heap.size=p2 at *
   generalize w7.alloc (.cells #[.bool false,.slice none 0 0] 38)=w8 at *
   have HC8:=hid hn
   have HNEHCHB:Hid (p1≠p2):=hneHB.symm
   have HNEHBHC:Hid (p2≠p1):=hneHB
   have HNEHCHD:Hid (p4≠p2):=hneHD.symm
   clear hn hal hS7 HB7 HD7 hneHB hneHD
   refine q00 (l':=#[false,true,true,true,true,true,true,false,true,true,true,true,true,false,false,false,false]) (by kernel_rfl) ?_
   revert HNEHCHD
   revert HNEHCHB
   revert HNEHBHC
   revert HNEHBHD
   revert HC8
   revert HD8
   revert HB8
   revert hS8
   revert p2
   revert o4
   revert p4
   revert p1
   revert w8
   exact LSbcd.out
  refine Later.mk ?_
  intro w7 p1 p2 hS7 HB7 HC7 HNEHBHC HNEHCHB
  refine q07 (i:=0) (j:=6) (by kernel_rfl) rfl rfl ?_ ?_
  ·skip
   intro K hK
   go_simp
   refine hK.out _ _ (Or.inr (hS7.alloc _)) ?_
   clear hK K
   have hn:=NI.new hS7 38
   have hal:=(G.refl w7).alloc (.cells #[.bool false,.slice none 0 0] 38)
   have hS8:=G.trans hS7 hal
   have HB8:=hid (HB7.out.G hal)
   have HC8:=hid (HC7.out.G hal)
   have hneHB:w7.heap.size≠p1:=by have:=HB7.out.2.1;omega
   have hneHC:w7.heap.size≠p2:=by have:=HC7.out.2.1;omega
   generalize w7.heap.size=p0 at *
   generalize w7.alloc (.cells #[.bool false,.slice none 0 0] 38)=w8 at *
   have HA8:=hid hn
   have HNEHAHB:Hid (p1≠p0):=hneHB.symm
   have HNEHBHA:Hid (p0≠p1):=hneHB
   have HNEHAHC:Hid (p2≠p0):=hneHC.symm
   have HNEHCHA:Hid (p0≠p2):=hneHC
   clear hn hal hS7 HB7 HC7 hneHB hneHC
   refine q00 (l':=#[true,true,true,true,true,true,false,false,true,true,true,true,true,false,false,false,false]) (by kernel_rfl) ?_
   revert HNEHAHC
   revert HNEHAHB
   revert HNEHCHB
   revert HNEHCHA
   revert HNEHBHC
   revert HNEHBHA
   revert HC8
   revert HB8
   revert HA8
   revert hS8
   revert p2
   revert p1
   revert p0
   revert w8
   exact LSabc.out
  ·skip
   intro K hK
   go_simp
   go_wp2_with (go_at_call 50;refine Calls.mono (P:=Tryz.prog) (q0H w w7 hS7 b2 ya yb hyb0 hby HYR.out) ?_;intro e w8 hx;obtain⟨p4,o4,rfl,hg,h72,h73⟩:=hx)
   refine hK.out _ _ (Or.inr (G.trans hS7 hg)) ?_
   clear hK K
   have hS8:=G.trans hS7 hg
   have HD8:=hid h72
   have hneHB:p4≠p1:=by have h1:=HB7.out.1;have h2:=HB7.out.2.1;omega
   have hneHC:p4≠p2:=by have h1:=HC7.out.1;have h2:=HC7.out.2.1;omega
   have HB8:=hid (HB7.out.G hg)
   have HC8:=hid (HC7.out.G hg)
   have HNEHBHD:Hid (p4≠p1):=hneHB
   have HNEHCHD:Hid (p4≠p2):=hneHC
   clear hg h72 h73 hS7 HB7 HC7 hneHB hneHC
   refine q00 (l':=#[false,true,true,true,true,true,true,false,true,true,true,true,true,false,false,false,false]) (by kernel_rfl) ?_
   revert HNEHCHD
   revert HNEHCHB
   revert HNEHBHC
   revert HNEHBHD
   revert HC8
   revert HD8
   revert HB8
   revert hS8
   revert p2
   revert o4
   revert p4
   revert p1
   revert w8
   exact LSbcd.out
  refine Later.mk ?_
  intro w7 p0 p4 o4 hS7 HA7 HD7 HNEHAHD
  refine q07 (i:=1) (j:=8) (by kernel_rfl) rfl rfl ?_ ?_
  ·skip
   intro K hK
   go_simp
   refine hK.out _ _ (Or.inr (hS7.alloc _)) ?_
   clear hK K
   have hn:=NI.new hS7 38
   have hal:=(G.refl w7).alloc (.cells #[.bool false,.slice none 0 0] 38)
   have hS8:=G.trans hS7 hal
   have HA8:=hid (HA7.out.G hal)
   have HD8:=hid (HD7.out.G hal)
   have hneHA:w7.heap.size≠p0:=by have:=HA7.out.2.1;omega
   have hneHD:w7.heap.size≠p4:=by have:=(HD7.out.is hS7).1;omega
   generalize w7.heap.size=p1 at *
   generalize w7.alloc (.cells #[.bool false,.slice none 0 0] 38)=w8 at *
   have HB8:=hid hn
   have HNEHBHA:Hid (p0≠p1):=hneHA.symm
   have HNEHAHB:Hid (p1≠p0):=hneHA
   have HNEHBHD:Hid (p4≠p1):=hneHD.symm
   clear hn hal hS7 HA7 HD7 hneHA hneHD
   refine q00 (l':=#[true,true,true,true,true,true,true,false,false,true,true,true,true,false,false,false,false]) (by kernel_rfl) ?_
   revert HNEHAHD
   revert HNEHAHB
   revert HNEHBHD
   revert HNEHBHA
   revert HD8
   revert HB8
   revert HA8
   revert hS8
   revert o4
   revert p4
   revert p1
   revert p0
   revert w8
   exact LSabd.out
  ·skip
   intro K hK
   go_simp
   refine hK.out _ _ (Or.inr (hS7.alloc _)) ?_
   clear hK K
   have hn:=NI.new hS7 38
   have hal:=(G.refl w7).alloc (.cells #[.bool false,.slice none 0 0] 38)
   have hS8:=G.trans hS7 hal
   have HA8:=hid (HA7.out.G hal)
   have HD8:=hid (HD7.out.G hal)
   have hneHA:w7.heap.size≠p0:=by have:=HA7.out.2.1;omega
   have hneHD:w7.heap.size≠p4:=by have:=(HD7.out.is hS7).1;omega
   generalize w7.heap.size=p2 at *
   generalize w7.alloc (.cells #[.bool false,.slice none 0 0] 38)=w8 at *
   have HC8:=hid hn
   have HNEHCHA:Hid (p0≠p2):=hneHA.symm
   have HNEHAHC:Hid (p2≠p0):=hneHA
   have HNEHCHD:Hid (p4≠p2):=hneHD.symm
   clear hn hal hS7 HA7 HD7 hneHA hneHD
   refine q00 (l':=#[true,false,true,true,true,true,true,false,true,true,true,true,true,false,false,false,false]) (by kernel_rfl) ?_
   revert HNEHAHC
   revert HNEHAHD
   revert HNEHCHD
   revert HNEHCHA
   revert HC8
   revert HD8
   revert HA8
   revert hS8
   revert p2
   revert o4
   revert p4
   revert p0
   revert w8
   exact LSacd.out
  refine Later.mk ?_
  intro w7 p0 p2 hS7 HA7 HC7 HNEHCHA HNEHAHC
  refine q07 (i:=1) (j:=6) (by kernel_rfl) rfl rfl ?_ ?_
  ·skip
   intro K hK
   go_simp
   refine hK.out _ _ (Or.inr (hS7.alloc _)) ?_
   clear hK K
   have hn:=NI.new hS7 38
   have hal:=(G.refl w7).alloc (.cells #[.bool false,.slice none 0 0] 38)
   have hS8:=G.trans hS7 hal
   have HA8:=hid (HA7.out.G hal)
   have HC8:=hid (HC7.out.G hal)
   have hneHA:w7.heap.size≠p0:=by have:=HA7.out.2.1;omega
   have hneHC:w7.heap.size≠p2:=by have:=HC7.out.2.1;omega
   generalize w7.heap.size=p1 at *
   generalize w7.alloc (.cells #[.bool false,.slice none 0 0] 38)=w8 at *
   have HB8:=hid hn
   have HNEHBHA:Hid (p0≠p1):=hneHA.symm
   have HNEHAHB:Hid (p1≠p0):=hneHA
   have HNEHBHC:Hid (p2≠p1):=hneHC.symm
   have HNEHCHB:Hid (p1≠p2):=hneHC
   clear hn hal hS7 HA7 HC7 hneHA hneHC
   refine q00 (l':=#[true,true,true,true,true,true,false,false,true,true,true,true,true,false,false,false,false]) (by kernel_rfl) ?_
   revert HNEHAHC
   revert HNEHAHB
   revert HNEHCHB
   revert HNEHCHA
   revert HNEHBHC
   revert HNEHBHA
   revert HC8
   revert HB8
   revert HA8
   revert hS8
   revert p2
   revert p1
   revert p0
   revert w8
   exact LSabc.out
  ·skip
   intro K hK
   go_simp
   go_wp2_with (go_at_call 50;refine Calls.mono (P:=Tryz.prog) (q0H w w7 hS7 b2 ya yb hyb0 hby HYR.out) ?_;intro e w8 hx;obtain⟨p4,o4,rfl,hg,h72,h73⟩:=hx)
   refine hK.out _ _ (Or.inr (G.trans hS7 hg)) ?_
   clear hK K
   have hS8:=G.trans hS7 hg
   have HD8:=hid h72
   have hneHA:p4≠p0:=by have h1:=HA7.out.1;have h2:=HA7.out.2.1;omega
   have hneHC:p4≠p2:=by have h1:=HC7.out.1;have h2:=HC7.out.2.1;omega
   have HA8:=hid (HA7.out.G hg)
   have HC8:=hid (HC7.out.G hg)
   have HNEHAHD:Hid (p4≠p0):=hneHA
   have HNEHCHD:Hid (p4≠p2):=hneHC
   clear hg h72 h73 hS7 HA7 HC7 hneHA hneHC
   refine q00 (l':=#[true,false,true,true,true,true,true,false,true,true,true,true,true,false,false,false,false]) (by kernel_rfl) ?_
   revert HNEHAHC
   revert HNEHAHD
   revert HNEHCHD
   revert HNEHCHA
   revert HC8
   revert HD8
   revert HA8
   revert hS8
   revert p2
   revert o4
   revert p4
   revert p0
   revert w8
   exact LSacd.out
  refine Later.mk ?_
  intro w7 p0 p1 hS7 HA7 HB7 HNEHBHA HNEHAHB
  refine q07 (i:=6) (j:=8) (by kernel_rfl) rfl rfl ?_ ?_
  ·skip
   intro K hK
   go_simp
   go_wp2_with (go_at_call 50;refine Calls.mono (P:=Tryz.prog) (q0H w w7 hS7 b2 ya yb hyb0 hby HYR.out) ?_;intro e w8 hx;obtain⟨p4,o4,rfl,hg,h72,h73⟩:=hx)
   refine hK.out _ _ (Or.inr (G.trans hS7 hg)) ?_
   clear hK K
   have hS8:=G.trans hS7 hg
   have HD8:=hid h72
   have hneHA:p4≠p0:=by have h1:=HA7.out.1;have h2:=HA7.out.2.1;omega
   have hneHB:p4≠p1:=by have h1:=HB7.out.1;have h2:=HB7.out.2.1;omega
   have HA8:=hid (HA7.out.G hg)
   have HB8:=hid (HB7.out.G hg)
   have HNEHAHD:Hid (p4≠p0):=hneHA
   have HNEHBHD:Hid (p4≠p1):=hneHB
   clear hg h72 h73 hS7 HA7 HB7 hneHA hneHB
   refine q00 (l':=#[true,true,true,true,true,true,true,false,false,true,true,true,true,false,false,false,false]) (by kernel_rfl) ?_
   revert HNEHAHD
   revert HNEHAHB
   revert HNEHBHD
   revert HNEHBHA
   revert HD8
   revert HB8
   revert HA8
   revert hS8
   revert o4
   revert p4
   revert p1
   revert p0
   revert w8
   exact LSabd.out
  ·skip
   intro K hK
   go_simp
   refine hK.out _ _ (Or.inr (hS7.alloc _)) ?_
   clear hK K
   have hn:=NI.new hS7 38
   have hal:=(G.refl w7).alloc (.cells #[.bool false,.slice none 0 0] 38)
   have hS8:=G.trans hS7 hal
   have HA8:=hid (HA7.out.G hal)
   have HB8:=hid (HB7.out.G hal)
   have hneHA:w7.heap.size≠p0:=by have:=HA7.out.2.1;omega
   have hneHB:w7.heap.size≠p1:=by have:=HB7.out.2.1;omega
   generalize w7.heap.size=p2 at *
   generalize w7.alloc (.cells #[.bool false,.slice none 0 0] 38)=w8 at *
   have HC8:=hid hn
   have HNEHCHA:Hid (p0≠p2):=hneHA.symm
   have HNEHAHC:Hid (p2≠p0):=hneHA
   have HNEHCHB:Hid (p1≠p2):=hneHB.symm
   have HNEHBHC:Hid (p2≠p1):=hneHB
   clear hn hal hS7 HA7 HB7 hneHA hneHB
   refine q00 (l':=#[true,true,true,true,true,true,false,false,true,true,true,true,true,false,false,false,false]) (by kernel_rfl) ?_
   revert HNEHAHC
   revert HNEHAHB
   revert HNEHCHB
   revert HNEHCHA
   revert HNEHBHC
   revert HNEHBHA
   revert HC8
   revert HB8
   revert HA8
   revert hS8
   revert p2
   revert p1
   revert p0
   revert w8
   exact LSabc.out
  refine Later.mk ?_
  intro w8 p1 p4 o4 p2 hS8 HB8 HD8 HC8 HNEHBHD HNEHBHC HNEHCHB HNEHCHD
  refine q07 (i:=0) (j:=7) (by kernel_rfl) rfl rfl ?_ ?_
  ·skip
   intro K hK
   go_simp
   refine hK.out _ _ (Or.inr (hS8.alloc _)) ?_
   clear hK K
   have hn:=NI.new hS8 38
   have hal:=(G.refl w8).alloc (.cells #[.bool false,.slice none 0 0] 38)
   have hS9:=G.trans hS8 hal
   have HB9:=hid (HB8.out.G hal)
   have HD9:=hid (HD8.out.G hal)
   have HC9:=hid (HC8.out.G hal)
   have hneHB:w8.heap.size≠p1:=by have:=HB8.out.2.1;omega
   have hneHD:w8.heap.size≠p4:=by have:=(HD8.out.is hS8).1;omega
   have hneHC:w8.heap.size≠p2:=by have:=HC8.out.2.1;omega
   generalize w8.heap.size=p0 at *
   generalize w8.alloc (.cells #[.bool false,.slice none 0 0] 38)=w9 at *
   have HA9:=hid hn
   have HNEHAHB:Hid (p1≠p0):=hneHB.symm
   have HNEHBHA:Hid (p0≠p1):=hneHB
   have HNEHAHD:Hid (p4≠p0):=hneHD.symm
   have HNEHAHC:Hid (p2≠p0):=hneHC.symm
   have HNEHCHA:Hid (p0≠p2):=hneHC
   clear hn hal hS8 HB8 HD8 HC8 hneHB hneHD hneHC
   refine q00 (l':=#[true,true,true,true,true,true,true,false,true,true,true,true,true,false,false,false,false]) (by kernel_rfl) ?_
   revert HNEHAHC
   revert HNEHAHD
   revert HNEHAHB
   revert HNEHCHD
   revert HNEHCHB
   revert HNEHCHA
   revert HNEHBHC
   revert HNEHBHD
   revert HNEHBHA
   revert HC9
   revert HD9
   revert HB9
   revert HA9
   revert hS9
   revert p2
   revert o4
   revert p4
   revert p1
   revert p0
   revert w9
   exact LSabcd.out
  ·skip
   intro K hK
   go_simp
   have HCW:Hid _:=q0Y w8 p1 0 bx 0 p4 o4 0 xa yb KB (by omega) HB01.out HB22.out HB8.out.2.1 (G.lt hS8 hbx) (HD8.out.is hS8).1 HB8.out.2.2 (IntIs.G HX0.out hbx hS8) (HD8.out.is hS8).2
   go_wp2_with (go_at_call 49;refine Calls.mono (P:=Tryz.prog) HCW.out ?_;intro e w9 hx;obtain⟨rfl,hS9,hl,-,hkp⟩:=SetTo.step hS8 HB8.out hx)
   have HB9:=hid hl
   have HD9:=hid (DI.keep HD8.out (hkp _ _ HNEHBHD.out))
   have HC9:=hid (hkp _ _ HNEHBHC.out HC8.out)
   refine hK.out _ _ (Or.inr hS9) ?_
   clear hK K hx hl hkp HCW hS8 HB8 HD8 HC8
   refine q00 (l':=#[false,true,true,true,true,true,true,true,true,true,true,true,true,false,false,false,false]) (by kernel_rfl) ?_
   revert HNEHCHD
   revert HNEHCHB
   revert HNEHBHC
   revert HNEHBHD
   revert HC9
   revert HD9
   revert HB9
   revert hS9
   revert p2
   revert o4
   revert p4
   revert p1
   revert w9
   exact LSbcdm.out
  refine Later.mk ?_
  intro w8 p0 p4 o4 p2 hS8 HA8 HD8 HC8 HNEHCHA HNEHCHD HNEHAHD HNEHAHC
  refine q03 (i:=1) (by kernel_rfl) rfl ?_
  intro K hK
  go_simp
  refine hK.out _ _ (Or.inr (hS8.alloc _)) ?_
  clear hK K
  have hn:=NI.new hS8 38
  have hal:=(G.refl w8).alloc (.cells #[.bool false,.slice none 0 0] 38)
  have hS9:=G.trans hS8 hal
  have HA9:=hid (HA8.out.G hal)
  have HD9:=hid (HD8.out.G hal)
  have HC9:=hid (HC8.out.G hal)
  have hneHA:w8.heap.size≠p0:=by have:=HA8.out.2.1;omega
  have hneHD:w8.heap.size≠p4:=by have:=(HD8.out.is hS8).1;omega
  have hneHC:w8.heap.size≠p2:=by have:=HC8.out.2.1;omega
  generalize w8.heap.size=p1 at *
  generalize w8.alloc (.cells #[.bool false,.slice none 0 0] 38)=w9 at *
  have HB9:=hid hn
  have HNEHBHA:Hid (p0≠p1):=hneHA.symm
  have HNEHAHB:Hid (p1≠p0):=hneHA
  have HNEHBHD:Hid (p4≠p1):=hneHD.symm
  have HNEHBHC:Hid (p2≠p1):=hneHC.symm
  have HNEHCHB:Hid (p1≠p2):=hneHC
  clear hn hal hS8 HA8 HD8 HC8 hneHA hneHD hneHC
  refine q00 (l':=#[true,true,true,true,true,true,true,false,true,true,true,true,true,false,false,false,false]) (by kernel_rfl) ?_
  revert HNEHAHC
  revert HNEHAHD
  revert HNEHAHB
  revert HNEHCHD
  revert HNEHCHB
  revert HNEHCHA
  revert HNEHBHC
  revert HNEHBHD
  revert HNEHBHA
  revert HC9
  revert HD9
  revert HB9
  revert HA9
  revert hS9
  revert p2
  revert o4
  revert p4
  revert p1
  revert p0
  revert w9
  exact LSabcd.out
  refine Later.mk ?_
  intro w8 p0 p1 p4 o4 hS8 HA8 HB8 HD8 HNEHBHA HNEHBHD HNEHAHB HNEHAHD
  refine q07 (i:=7) (j:=8) (by kernel_rfl) rfl rfl ?_ ?_
  ·skip
   intro K hK
   go_simp
   have HCW:Hid _:=q0Y w8 p1 0 bx 0 p4 o4 0 xa yb KB (by omega) HB01.out HB22.out HB8.out.2.1 (G.lt hS8 hbx) (HD8.out.is hS8).1 HB8.out.2.2 (IntIs.G HX0.out hbx hS8) (HD8.out.is hS8).2
   go_wp2_with (go_at_call 49;refine Calls.mono (P:=Tryz.prog) HCW.out ?_;intro e w9 hx;obtain⟨rfl,hS9,hl,-,hkp⟩:=SetTo.step hS8 HB8.out hx)
   have HB9:=hid hl
   have HA9:=hid (hkp _ _ HNEHBHA.out HA8.out)
   have HD9:=hid (DI.keep HD8.out (hkp _ _ HNEHBHD.out))
   refine hK.out _ _ (Or.inr hS9) ?_
   clear hK K hx hl hkp HCW hS8 HA8 HB8 HD8
   refine q00 (l':=#[true,true,true,true,true,true,true,true,false,true,true,true,true,false,false,false,false]) (by kernel_rfl) ?_
   revert HNEHAHD
   revert HNEHAHB
   revert HNEHBHD
   revert HNEHBHA
   revert HD9
   revert HB9
   revert HA9
   revert hS9
   revert o4
   revert p4
   revert p1
   revert p0
   revert w9
   exact LSabdm.out
  ·skip
   intro K hK
   go_simp
   refine hK.out _ _ (Or.inr (hS8.alloc _)) ?_
   clear hK K
   have hn:=NI.new hS8 38
   have hal:=(G.refl w8).alloc (.cells #[.bool false,.slice none 0 0] 38)
   have hS9:=G.trans hS8 hal
   have HA9:=hid (HA8.out.G hal)
   have HB9:=hid (HB8.out.G hal)
   have HD9:=hid (HD8.out.G hal)
   have hneHA:w8.heap.size≠p0:=by have:=HA8.out.2.1;omega
   have hneHB:w8.heap.size≠p1:=by have:=HB8.out.2.1;omega
   have hneHD:w8.heap.size≠p4:=by have:=(HD8.out.is hS8).1;omega
   generalize w8.heap.size=p2 at *
   generalize w8.alloc (.cells #[.bool false,.slice none 0 0] 38)=w9 at *
   have HC9:=hid hn
   have HNEHCHA:Hid (p0≠p2):=hneHA.symm
   have HNEHAHC:Hid (p2≠p0):=hneHA
   have HNEHCHB:Hid (p1≠p2):=hneHB.symm
   have HNEHBHC:Hid (p2≠p1):=hneHB
   have HNEHCHD:Hid (p4≠p2):=hneHD.symm
   clear hn hal hS8 HA8 HB8 HD8 hneHA hneHB hneHD
   refine q00 (l':=#[true,true,true,true,true,true,true,false,true,true,true,true,true,false,false,false,false]) (by kernel_rfl) ?_
   revert HNEHAHC
   revert HNEHAHD
   revert HNEHAHB
   revert HNEHCHD
   revert HNEHCHB
   revert HNEHCHA
   revert HNEHBHC
   revert HNEHBHD
   revert HNEHBHA
   revert HC9
   revert HD9
   revert HB9
   revert HA9
   revert hS9
   revert p2
   revert o4
   revert p4
   revert p1
   revert p0
   revert w9
   exact LSabcd.out
  refine Later.mk ?_
  intro w8 p0 p1 p2 hS8 HA8 HB8 HC8 HNEHBHA HNEHBHC HNEHCHA HNEHCHB HNEHAHB HNEHAHC
  refine q03 (i:=6) (by kernel_rfl) rfl ?_
  intro K hK
  go_simp
  go_wp2_with (go_at_call 50;refine Calls.mono (P:=Tryz.prog) (q0H w w8 hS8 b2 ya yb hyb0 hby HYR.out) ?_;intro e w9 hx;obtain⟨p4,o4,rfl,hg,h72,h73⟩:=hx)
  refine hK.out _ _ (Or.inr (G.trans hS8 hg)) ?_
  clear hK K
  have hS9:=G.trans hS8 hg
  have HD9:=hid h72
  have hneHA:p4≠p0:=by have h1:=HA8.out.1;have h2:=HA8.out.2.1;omega
  have hneHB:p4≠p1:=by have h1:=HB8.out.1;have h2:=HB8.out.2.1;omega
  have hneHC:p4≠p2:=by have h1:=HC8.out.1;have h2:=HC8.out.2.1;omega
  have HA9:=hid (HA8.out.G hg)
  have HB9:=hid (HB8.out.G hg)
  have HC9:=hid (HC8.out.G hg)
  have HNEHAHD:Hid (p4≠p0):=hneHA
  have HNEHBHD:Hid (p4≠p1):=hneHB
  have HNEHCHD:Hid (p4≠p2):=hneHC
  clear hg h72 h73 hS8 HA8 HB8 HC8 hneHA hneHB hneHC
  refine q00 (l':=#[true,true,true,true,true,true,true,false,true,true,true,true,true,false,false,false,false]) (by kernel_rfl) ?_
  revert HNEHAHC
  revert HNEHAHD
  revert HNEHAHB
  revert HNEHCHD
  revert HNEHCHB
  revert HNEHCHA
  revert HNEHBHC
  revert HNEHBHD
  revert HNEHBHA
  revert HC9
  revert HD9
  revert HB9
  revert HA9
  revert hS9
  revert p2
  revert o4
  revert p4
  revert p1
  revert p0
  revert w9
  exact LSabcd.out
  refine Later.mk ?_
  intro w9 p1 p4 o4 p2 hS9 HB9 HD9 HC9 HNEHBHD HNEHBHC HNEHCHB HNEHCHD
  refine q07 (i:=0) (j:=13) (by kernel_rfl) rfl rfl ?_ ?_
  ·skip
   intro K hK
   go_simp
   refine hK.out _ _ (Or.inr (hS9.alloc _)) ?_
   clear hK K
   have hn:=NI.new hS9 38
   have hal:=(G.refl w9).alloc (.cells #[.bool false,.slice none 0 0] 38)
   have hS10:=G.trans hS9 hal
   have HB10:=hid (HB9.out.G hal)
   have HD10:=hid (HD9.out.G hal)
   have HC10:=hid (HC9.out.G hal)
   have hneHB:w9.heap.size≠p1:=by have:=HB9.out.2.1;omega
   have hneHD:w9.heap.size≠p4:=by have:=(HD9.out.is hS9).1;omega
   have hneHC:w9.heap.size≠p2:=by have:=HC9.out.2.1;omega
   generalize w9.heap.size=p0 at *
   generalize w9.alloc (.cells #[.bool false,.slice none 0 0] 38)=w10 at *
   have HA10:=hid hn
   have HNEHAHB:Hid (p1≠p0):=hneHB.symm
   have HNEHBHA:Hid (p0≠p1):=hneHB
   have HNEHAHD:Hid (p4≠p0):=hneHD.symm
   have HNEHAHC:Hid (p2≠p0):=hneHC.symm
   have HNEHCHA:Hid (p0≠p2):=hneHC
   clear hn hal hS9 HB9 HD9 HC9 hneHB hneHD hneHC
   refine q00 (l':=#[true,true,true,true,true,true,true,true,true,true,true,true,true,false,false,false,false]) (by kernel_rfl) ?_
   revert HNEHAHC
   revert HNEHAHD
   revert HNEHAHB
   revert HNEHCHD
   revert HNEHCHB
   revert HNEHCHA
   revert HNEHBHC
   revert HNEHBHD
   revert HNEHBHA
   revert HC10
   revert HD10
   revert HB10
   revert HA10
   revert hS10
   revert p2
   revert o4
   revert p4
   revert p1
   revert p0
   revert w10
   exact LSabcdm.out
  ·skip
   intro K hK
   go_simp
   go_wp2_with (go_at_call 50;refine Calls.mono (P:=Tryz.prog) (q0H w w9 hS9 bx xa xb hxb0 hbx HXR.out) ?_;intro e w10 hx;obtain⟨p3,o3,rfl,hg,h72,h73⟩:=hx)
   refine hK.out _ _ (Or.inr (G.trans hS9 hg)) ?_
   clear hK K
   have hS10:=G.trans hS9 hg
   have HE10:=hid h72
   have hneHB:p3≠p1:=by have h1:=HB9.out.1;have h2:=HB9.out.2.1;omega
   have hneHC:p3≠p2:=by have h1:=HC9.out.1;have h2:=HC9.out.2.1;omega
   have HB10:=hid (HB9.out.G hg)
   have HD10:=hid (HD9.out.G hg)
   have HC10:=hid (HC9.out.G hg)
   have HNEHBHE:Hid (p3≠p1):=hneHB
   have HNEHCHE:Hid (p3≠p2):=hneHC
   clear hg h72 h73 hS9 HB9 HD9 HC9 hneHB hneHC
   refine q00 (l':=#[false,true,true,true,true,true,true,true,true,true,true,true,true,true,false,false,false]) (by kernel_rfl) ?_
   revert HNEHCHE
   revert HNEHCHD
   revert HNEHCHB
   revert HNEHBHE
   revert HNEHBHC
   revert HNEHBHD
   revert HE10
   revert HC10
   revert HD10
   revert HB10
   revert hS10
   revert o3
   revert p3
   revert p2
   revert o4
   revert p4
   revert p1
   revert w10
   exact LSbcdem.out
  refine Later.mk ?_
  intro w9 p0 p1 p4 o4 hS9 HA9 HB9 HD9 HNEHBHA HNEHBHD HNEHAHB HNEHAHD
  refine q07 (i:=8) (j:=13) (by kernel_rfl) rfl rfl ?_ ?_
  ·skip
   intro K hK
   go_simp
   refine hK.out _ _ (Or.inr (hS9.alloc _)) ?_
   clear hK K
   have hn:=NI.new hS9 38
   have hal:=(G.refl w9).alloc (.cells #[.bool false,.slice none 0 0] 38)
   have hS10:=G.trans hS9 hal
   have HA10:=hid (HA9.out.G hal)
   have HB10:=hid (HB9.out.G hal)
   have HD10:=hid (HD9.out.G hal)
   have hneHA:w9.heap.size≠p0:=by have:=HA9.out.2.1;omega
   have hneHB:w9.heap.size≠p1:=by have:=HB9.out.2.1;omega
   have hneHD:w9.heap.size≠p4:=by have:=(HD9.out.is hS9).1;omega
   generalize w9.heap.size=p2 at *
   generalize w9.alloc (.cells #[.bool false,.slice none 0 0] 38)=w10 at *
   have HC10:=hid hn
   have HNEHCHA:Hid (p0≠p2):=hneHA.symm
   have HNEHAHC:Hid (p2≠p0):=hneHA
   have HNEHCHB:Hid (p1≠p2):=hneHB.symm
   have HNEHBHC:Hid (p2≠p1):=hneHB
   have HNEHCHD:Hid (p4≠p2):=hneHD.symm
   clear hn hal hS9 HA9 HB9 HD9 hneHA hneHB hneHD
   refine q00 (l':=#[true,true,true,true,true,true,true,true,true,true,true,true,true,false,false,false,false]) (by kernel_rfl) ?_
   revert HNEHAHC
   revert HNEHAHD
   revert HNEHAHB
   revert HNEHCHD
   revert HNEHCHB
   revert HNEHCHA
   revert HNEHBHC
   revert HNEHBHD
   revert HNEHBHA
   revert HC10
   revert HD10
   revert HB10
   revert HA10
   revert hS10
   revert p2
   revert o4
   revert p4
   revert p1
   revert p0
   revert w10
   exact LSabcdm.out
  ·skip
   intro K hK
   go_simp
   go_wp2_with (go_at_call 50;refine Calls.mono (P:=Tryz.prog) (q0H w w9 hS9 bx xa xb hxb0 hbx HXR.out) ?_;intro e w10 hx;obtain⟨p3,o3,rfl,hg,h72,h73⟩:=hx)
   refine hK.out _ _ (Or.inr (G.trans hS9 hg)) ?_
   clear hK K
   have hS10:=G.trans hS9 hg
   have HE10:=hid h72
   have hneHA:p3≠p0:=by have h1:=HA9.out.1;have h2:=HA9.out.2.1;omega
   have hneHB:p3≠p1:=by have h1:=HB9.out.1;have h2:=HB9.out.2.1;omega
   have HA10:=hid (HA9.out.G hg)
   have HB10:=hid (HB9.out.G hg)
   have HD10:=hid (HD9.out.G hg)
   have HNEHAHE:Hid (p3≠p0):=hneHA
   have HNEHBHE:Hid (p3≠p1):=hneHB
   clear hg h72 h73 hS9 HA9 HB9 HD9 hneHA hneHB
   refine q00 (l':=#[true,true,true,true,true,true,true,true,false,true,true,true,true,true,false,false,false]) (by kernel_rfl) ?_
   revert HNEHAHE
   revert HNEHAHD
   revert HNEHAHB
   revert HNEHBHE
   revert HNEHBHD
   revert HNEHBHA
   revert HE10
   revert HD10
   revert HB10
   revert HA10
   revert hS10
   revert o3
   revert p3
   revert o4
   revert p4
   revert p1
   revert p0
   revert w10
   exact LSabdem.out
  refine Later.mk ?_
  intro w9 p0 p1 p4 o4 p2 hS9 HA9 HB9 HD9 HC9 HNEHBHA HNEHBHD HNEHBHC HNEHCHA HNEHCHB HNEHCHD HNEHAHB HNEHAHD HNEHAHC
  refine q03 (i:=7) (by kernel_rfl) rfl ?_
  intro K hK
  go_simp
  have HCW:Hid _:=q0Y w9 p1 0 bx 0 p4 o4 0 xa yb KB (by omega) HB01.out HB22.out HB9.out.2.1 (G.lt hS9 hbx) (HD9.out.is hS9).1 HB9.out.2.2 (IntIs.G HX0.out hbx hS9) (HD9.out.is hS9).2
  go_wp2_with (go_at_call 49;refine Calls.mono (P:=Tryz.prog) HCW.out ?_;intro e w10 hx;obtain⟨rfl,hS10,hl,-,hkp⟩:=SetTo.step hS9 HB9.out hx)
  have HB10:=hid hl
  have HA10:=hid (hkp _ _ HNEHBHA.out HA9.out)
  have HD10:=hid (DI.keep HD9.out (hkp _ _ HNEHBHD.out))
  have HC10:=hid (hkp _ _ HNEHBHC.out HC9.out)
  refine hK.out _ _ (Or.inr hS10) ?_
  clear hK K hx hl hkp HCW hS9 HA9 HB9 HD9 HC9
  refine q00 (l':=#[true,true,true,true,true,true,true,true,true,true,true,true,true,false,false,false,false]) (by kernel_rfl) ?_
  revert HNEHAHC
  revert HNEHAHD
  revert HNEHAHB
  revert HNEHCHD
  revert HNEHCHB
  revert HNEHCHA
  revert HNEHBHC
  revert HNEHBHD
  revert HNEHBHA
  revert HC10
  revert HD10
  revert HB10
  revert HA10
  revert hS10
  revert p2
  revert o4
  revert p4
  revert p1
  revert p0
  revert w10
  exact LSabcdm.out
  refine Later.mk ?_
  intro w10 p1 p4 o4 p2 p3 o3 hS10 HB10 HD10 HC10 HE10 HNEHBHD HNEHBHC HNEHBHE HNEHCHB HNEHCHD HNEHCHE
  refine q07 (i:=0) (j:=14) (by kernel_rfl) rfl rfl ?_ ?_
  ·skip
   intro K hK
   go_simp
   refine hK.out _ _ (Or.inr (hS10.alloc _)) ?_
   clear hK K
   have hn:=NI.new hS10 38
   have hal:=(G.refl w10).alloc (.cells #[.bool false,.slice none 0 0] 38)
   have hS11:=G.trans hS10 hal
   have HB11:=hid (HB10.out.G hal)
   have HD11:=hid (HD10.out.G hal)
   have HC11:=hid (HC10.out.G hal)
   have HE11:=hid (HE10.out.G hal)
   have hneHB:w10.heap.size≠p1:=by have:=HB10.out.2.1;omega
   have hneHD:w10.heap.size≠p4:=by have:=(HD10.out.is hS10).1;omega
   have hneHC:w10.heap.size≠p2:=by have:=HC10.out.2.1;omega
   have hneHE:w10.heap.size≠p3:=by have:=(HE10.out.is hS10).1;omega
   generalize w10.heap.size=p0 at *
   generalize w10.alloc (.cells #[.bool false,.slice none 0 0] 38)=w11 at *
   have HA11:=hid hn
   have HNEHAHB:Hid (p1≠p0):=hneHB.symm
   have HNEHBHA:Hid (p0≠p1):=hneHB
   have HNEHAHD:Hid (p4≠p0):=hneHD.symm
   have HNEHAHC:Hid (p2≠p0):=hneHC.symm
   have HNEHCHA:Hid (p0≠p2):=hneHC
   have HNEHAHE:Hid (p3≠p0):=hneHE.symm
   clear hn hal hS10 HB10 HD10 HC10 HE10 hneHB hneHD hneHC hneHE
   refine q00 (l':=#[true,true,true,true,true,true,true,true,true,true,true,true,true,true,false,false,false]) (by kernel_rfl) ?_
   revert HNEHAHE
   revert HNEHAHC
   revert HNEHAHD
   revert HNEHAHB
   revert HNEHCHE
   revert HNEHCHD
   revert HNEHCHB
   revert HNEHCHA
   revert HNEHBHE
   revert HNEHBHC
   revert HNEHBHD
   revert HNEHBHA
   revert HE11
   revert HC11
   revert HD11
   revert HB11
   revert HA11
   revert hS11
   revert o3
   revert p3
   revert p2
   revert o4
   revert p4
   revert p1
   revert p0
   revert w11
   exact LSabcdem.out
  ·skip
   intro K hK
   go_simp
   have HCW:Hid _:=q0Y w10 p2 0 b2 0 p3 o3 0 ya xb KB (by omega) HB02.out HB21.out HC10.out.2.1 (G.lt hS10 hby) (HE10.out.is hS10).1 HC10.out.2.2 (IntIs.G HY0.out hby hS10) (HE10.out.is hS10).2
   go_wp2_with (go_at_call 49;refine Calls.mono (P:=Tryz.prog) HCW.out ?_;intro e w11 hx;obtain⟨rfl,hS11,hl,-,hkp⟩:=SetTo.step hS10 HC10.out hx)
   have HC11:=hid hl
   have HB11:=hid (hkp _ _ HNEHCHB.out HB10.out)
   have HD11:=hid (DI.keep HD10.out (hkp _ _ HNEHCHD.out))
   have HE11:=hid (DI.keep HE10.out (hkp _ _ HNEHCHE.out))
   refine hK.out _ _ (Or.inr hS11) ?_
   clear hK K hx hl hkp HCW hS10 HB10 HD10 HC10 HE10
   refine q03 (i:=0) (by kernel_rfl) rfl ?_
   intro K hK
   go_simp
   refine hK.out _ _ (Or.inr (hS11.alloc _)) ?_
   clear hK K
   have hn:=NI.new hS11 38
   have hal:=(G.refl w11).alloc (.cells #[.bool false,.slice none 0 0] 38)
   have hS12:=G.trans hS11 hal
   have HB12:=hid (HB11.out.G hal)
   have HD12:=hid (HD11.out.G hal)
   have HC12:=hid (HC11.out.G hal)
   have HE12:=hid (HE11.out.G hal)
   have hneHB:w11.heap.size≠p1:=by have:=HB11.out.2.1;omega
   have hneHD:w11.heap.size≠p4:=by have:=(HD11.out.is hS11).1;omega
   have hneHC:w11.heap.size≠p2:=by have:=HC11.out.2.1;omega
   have hneHE:w11.heap.size≠p3:=by have:=(HE11.out.is hS11).1;omega
   generalize w11.heap.size=p0 at *
   generalize w11.alloc (.cells #[.bool false,.slice none 0 0] 38)=w12 at *
   have HA12:=hid hn
   have HNEHAHB:Hid (p1≠p0):=hneHB.symm
   have HNEHBHA:Hid (p0≠p1):=hneHB
   have HNEHAHD:Hid (p4≠p0):=hneHD.symm
   have HNEHAHC:Hid (p2≠p0):=hneHC.symm
   have HNEHCHA:Hid (p0≠p2):=hneHC
   have HNEHAHE:Hid (p3≠p0):=hneHE.symm
   clear hn hal hS11 HB11 HD11 HC11 HE11 hneHB hneHD hneHC hneHE
   refine q00 (l':=#[true,true,true,true,true,true,true,true,true,true,true,true,true,true,true,false,false]) (by kernel_rfl) ?_
   revert HNEHAHE
   revert HNEHAHC
   revert HNEHAHD
   revert HNEHAHB
   revert HNEHCHE
   revert HNEHCHD
   revert HNEHCHB
   revert HNEHCHA
   revert HNEHBHE
   revert HNEHBHC
   revert HNEHBHD
   revert HNEHBHA
   revert HE12
   revert HC12
   revert HD12
   revert HB12
   revert HA12
   revert hS12
   revert o3
   revert p3
   revert p2
   revert o4
   revert p4
   revert p1
   revert p0
   revert w12
   exact LSabcdemn.out
  refine Later.mk ?_
  intro w10 p0 p1 p4 o4 p3 o3 hS10 HA10 HB10 HD10 HE10 HNEHBHA HNEHBHD HNEHBHE HNEHAHB HNEHAHD HNEHAHE
  refine q03 (i:=8) (by kernel_rfl) rfl ?_
  intro K hK
  go_simp
  refine hK.out _ _ (Or.inr (hS10.alloc _)) ?_
  clear hK K
  have hn:=NI.new hS10 38
  have hal:=(G.refl w10).alloc (.cells #[.bool false,.slice none 0 0] 38)
  have hS11:=G.trans hS10 hal
  have HA11:=hid (HA10.out.G hal)
  have HB11:=hid (HB10.out.G hal)
  have HD11:=hid (HD10.out.G hal)
  have HE11:=hid (HE10.out.G hal)
  have hneHA:w10.heap.size≠p0:=by have:=HA10.out.2.1;omega
  have hneHB:w10.heap.size≠p1:=by have:=HB10.out.2.1;omega
  have hneHD:w10.heap.size≠p4:=by have:=(HD10.out.is hS10).1;omega
  have hneHE:w10.heap.size≠p3:=by have:=(HE10.out.is hS10).1;omega
  generalize w10.heap.size=p2 at *
  generalize w10.alloc (.cells #[.bool false,.slice none 0 0] 38)=w11 at *
  have HC11:=hid hn
  have HNEHCHA:Hid (p0≠p2):=hneHA.symm
  have HNEHAHC:Hid (p2≠p0):=hneHA
  have HNEHCHB:Hid (p1≠p2):=hneHB.symm
  have HNEHBHC:Hid (p2≠p1):=hneHB
  have HNEHCHD:Hid (p4≠p2):=hneHD.symm
  have HNEHCHE:Hid (p3≠p2):=hneHE.symm
  clear hn hal hS10 HA10 HB10 HD10 HE10 hneHA hneHB hneHD hneHE
  refine q00 (l':=#[true,true,true,true,true,true,true,true,true,true,true,true,true,true,false,false,false]) (by kernel_rfl) ?_
  revert HNEHAHE
  revert HNEHAHC
  revert HNEHAHD
  revert HNEHAHB
  revert HNEHCHE
  revert HNEHCHD
  revert HNEHCHB
  revert HNEHCHA
  revert HNEHBHE
  revert HNEHBHC
  revert HNEHBHD
  revert HNEHBHA
  revert HE11
  revert HC11
  revert HD11
  revert HB11
  revert HA11
  revert hS11
  revert o3
  revert p3
  revert p2
  revert o4
  revert p4
  revert p1
  revert p0
  revert w11
  exact LSabcdem.out
  refine Later.mk ?_
  intro w10 p0 p1 p4 o4 p2 hS10 HA10 HB10 HD10 HC10 HNEHBHA HNEHBHD HNEHBHC HNEHCHA HNEHCHB HNEHCHD HNEHAHB HNEHAHD HNEHAHC
  refine q03 (i:=13) (by kernel_rfl) rfl ?_
  intro K hK
  go_simp
  go_wp2_with (go_at_call 50;refine Calls.mono (P:=Tryz.prog) (q0H w w10 hS10 bx xa xb hxb0 hbx HXR.out) ?_;intro e w11 hx;obtain⟨p3,o3,rfl,hg,h72,h73⟩:=hx)
  refine hK.out _ _ (Or.inr (G.trans hS10 hg)) ?_
  clear hK K
  have hS11:=G.trans hS10 hg
  have HE11:=hid h72
  have hneHA:p3≠p0:=by have h1:=HA10.out.1;have h2:=HA10.out.2.1;omega
  have hneHB:p3≠p1:=by have h1:=HB10.out.1;have h2:=HB10.out.2.1;omega
  have hneHC:p3≠p2:=by have h1:=HC10.out.1;have h2:=HC10.out.2.1;omega
  have HA11:=hid (HA10.out.G hg)
  have HB11:=hid (HB10.out.G hg)
  have HD11:=hid (HD10.out.G hg)
  have HC11:=hid (HC10.out.G hg)
  have HNEHAHE:Hid (p3≠p0):=hneHA
  have HNEHBHE:Hid (p3≠p1):=hneHB
  have HNEHCHE:Hid (p3≠p2):=hneHC
  clear hg h72 h73 hS10 HA10 HB10 HD10 HC10 hneHA hneHB hneHC
  refine q00 (l':=#[true,true,true,true,true,true,true,true,true,true,true,true,true,true,false,false,false]) (by kernel_rfl) ?_
  revert HNEHAHE
  revert HNEHAHC
  revert HNEHAHD
  revert HNEHAHB
  revert HNEHCHE
  revert HNEHCHD
  revert HNEHCHB
  revert HNEHCHA
  revert HNEHBHE
  revert HNEHBHC
  revert HNEHBHD
  revert HNEHBHA
  revert HE11
  revert HC11
  revert HD11
  revert HB11
  revert HA11
  revert hS11
  revert o3
  revert p3
  revert p2
  revert o4
  revert p4
  revert p1
  revert p0
  revert w11
  exact LSabcdem.out
  refine Later.mk ?_
  intro w11 p0 p1 p4 o4 p2 p3 o3 hS11 HA11 HB11 HD11 HC11 HE11 HNEHBHA HNEHBHD HNEHBHC HNEHBHE HNEHCHA HNEHCHB HNEHCHD HNEHCHE HNEHAHB HNEHAHD HNEHAHC HNEHAHE
  refine q03 (i:=14) (by kernel_rfl) rfl ?_
  intro K hK
  go_simp
  have HCW:Hid _:=q0Y w11 p2 0 b2 0 p3 o3 0 ya xb KB (by omega) HB02.out HB21.out HC11.out.2.1 (G.lt hS11 hby) (HE11.out.is hS11).1 HC11.out.2.2 (IntIs.G HY0.out hby hS11) (HE11.out.is hS11).2
  go_wp2_with (go_at_call 49;refine Calls.mono (P:=Tryz.prog) HCW.out ?_;intro e w12 hx;obtain⟨rfl,hS12,hl,-,hkp⟩:=SetTo.step hS11 HC11.out hx)
  have HC12:=hid hl
  have HA12:=hid (hkp _ _ HNEHCHA.out HA11.out)
  have HB12:=hid (hkp _ _ HNEHCHB.out HB11.out)
  have HD12:=hid (DI.keep HD11.out (hkp _ _ HNEHCHD.out))
  have HE12:=hid (DI.keep HE11.out (hkp _ _ HNEHCHE.out))
  refine hK.out _ _ (Or.inr hS12) ?_
  clear hK K hx hl hkp HCW hS11 HA11 HB11 HD11 HC11 HE11
  refine q00 (l':=#[true,true,true,true,true,true,true,true,true,true,true,true,true,true,true,false,false]) (by kernel_rfl) ?_
  revert HNEHAHE
  revert HNEHAHC
  revert HNEHAHD
  revert HNEHAHB
  revert HNEHCHE
  revert HNEHCHD
  revert HNEHCHB
  revert HNEHCHA
  revert HNEHBHE
  revert HNEHBHC
  revert HNEHBHD
  revert HNEHBHA
  revert HE12
  revert HC12
  revert HD12
  revert HB12
  revert HA12
  revert hS12
  revert o3
  revert p3
  revert p2
  revert o4
  revert p4
  revert p1
  revert p0
  revert w12
  exact LSabcdemn.out
  refine Later.mk ?_
  intro w12 p0 p1 p4 o4 p2 p3 o3 hS12 HA12 HB12 HD12 HC12 HE12 HNEHBHA HNEHBHD HNEHBHC HNEHBHE HNEHCHA HNEHCHB HNEHCHD HNEHCHE HNEHAHB HNEHAHD HNEHAHC HNEHAHE
  refine q03 (i:=15) (by kernel_rfl) rfl ?_
  intro K hK
  go_simp
  have HCW:Hid _:=q7g w12 p0 0 p1 0 p2 0 0 (xa*(yb:Int)) (ya*(xb:Int)) (2*KB) (by omega) HN1.out HN2.out HA12.out.2.1 HB12.out.2.1 HC12.out.2.1 HA12.out.2.2 HB12.out.2.2 HC12.out.2.2
  go_wp2_with (go_at_call 65;refine Calls.mono (P:=Tryz.prog) HCW.out ?_;intro e w13 hx;obtain⟨rfl,hS13,hl,-,hkp⟩:=SetTo.step hS12 HA12.out hx)
  have HA13:=hid hl
  have HB13:=hid (hkp _ _ HNEHAHB.out HB12.out)
  have HD13:=hid (DI.keep HD12.out (hkp _ _ HNEHAHD.out))
  have HC13:=hid (hkp _ _ HNEHAHC.out HC12.out)
  have HE13:=hid (DI.keep HE12.out (hkp _ _ HNEHAHE.out))
  refine hK.out _ _ (Or.inl (by decide)) ?_
  clear hK K hx hl hkp HCW hS12 HA12 HB12 HD12 HC12 HE12
  refine q03 (i:=16) (by kernel_rfl) rfl ?_
  intro K hK
  go_simp
  refine hK.out _ _ (Or.inl (by decide)) ?_
  clear hK K
  refine q0i (by kernel_rfl) ?_ _
  revert HNEHAHE
  revert HNEHAHC
  revert HNEHAHD
  revert HNEHAHB
  revert HNEHCHE
  revert HNEHCHD
  revert HNEHCHB
  revert HNEHCHA
  revert HNEHBHE
  revert HNEHBHC
  revert HNEHBHD
  revert HNEHBHA
  revert HE13
  revert HC13
  revert HD13
  revert HB13
  revert HA13
  revert hS13
  revert o3
  revert p3
  revert p2
  revert o4
  revert p4
  revert p1
  revert p0
  revert w13
  exact LX.out
 ·skip
  refine Later.mk ?_
  intro w13 p0 p1 p4 o4 p2 p3 o3 hS13 HA13 HB13 HD13 HC13 HE13 HNEHBHA HNEHBHD HNEHBHC HNEHBHE HNEHCHA HNEHCHB HNEHCHD HNEHCHE HNEHAHB HNEHAHD HNEHAHC HNEHAHE
  clear HNEHBHA HNEHBHD HNEHBHC HNEHBHE HNEHCHA HNEHCHB HNEHCHD HNEHCHE HNEHAHB HNEHAHD HNEHAHC HNEHAHE
  have HS:=HA13.out
  have hG:=hS13
  clear HA13 HB13 HC13 HD13 HE13 hS13
  have HS0:Hid (NI w w13 p0 (xa*(yb:Int)+ya*(xb:Int))):=HS
  clear HS
  go_wp2_with fail
  have hn0:=NI.new hG 38
  have hal:=(G.refl w13).alloc (.cells #[.bool false,.slice none 0 0] 38)
  have hG1:=G.trans hG hal
  have hs1:=HS0.out.G hal
  have hne:p0≠w13.heap.size:=by have:=HS0.out.2.1;omega
  generalize w13.heap.size=pd at *
  generalize w13.alloc (.cells #[.bool false,.slice none 0 0] 38)=v1 at *
  have HP1:Hid (NI w v1 pd 0):=hn0
  have HS1:Hid (NI w v1 p0 (xa*(yb:Int)+ya*(xb:Int))):=hs1
  clear hn0 hal hs1 hG HS0
  refine Calls.mono (P:=Tryz.prog) (q0H w v1 hG1 bx xa xb hxb0 hbx HXR.out) ?_
  rintro e v2 ⟨pe,oe,rfl,hg2,k2,-⟩
  have HE2:Hid (DI w v2 pe oe xb):=k2
  clear k2
  have hG2:=G.trans hG1 hg2
  have HP2:Hid (NI w v2 pd 0):=HP1.out.G hg2
  have HS2:Hid (NI w v2 p0 (xa*(yb:Int)+ya*(xb:Int))):=HS1.out.G hg2
  clear hG1 hg2 HP1 HS1
  go_wp2_with fail
  refine Calls.mono (P:=Tryz.prog) (q0H w v2 hG2 b2 ya yb hyb0 hby HYR.out) ?_
  rintro e v3 ⟨pf,of,rfl,hg3,k3,-⟩
  have HF3:Hid (DI w v3 pf of yb):=k3
  have hG3:=G.trans hG2 hg3
  have HP3:Hid (NI w v3 pd 0):=HP2.out.G hg3
  have HS3:Hid (NI w v3 p0 (xa*(yb:Int)+ya*(xb:Int))):=HS2.out.G hg3
  have HE3:Hid (DI w v3 pe oe xb):=HE2.out.G hg3
  clear hG2 hg3 HP2 HS2 HE2 k3
  have HM:Hid _:=q0Y v3 pd 0 pe oe pf of 0 xb yb KB (by omega) HB21.out HB22.out HP3.out.2.1 (HE3.out.is hG3).1 (HF3.out.is hG3).1 HP3.out.2.2 (HE3.out.is hG3).2 (HF3.out.is hG3).2
  go_wp2_with fail
  refine Calls.mono (P:=Tryz.prog) HM.out ?_
  intro e v4 hs
  obtain⟨rfl,hG4,hp4,-,hkp⟩:=SetTo.step hG3 HP3.out hs
  have HS4:Hid (NI w v4 p0 (xa*(yb:Int)+ya*(xb:Int))):=hkp p0 _ hne HS3.out
  rw[show (xb:Int)*yb=((xb*yb:Nat):Int) from by push_cast;rfl] at hp4
  have HP4:Hid (NI w v4 pd ((xb*yb:Nat):Int)):=hp4
  clear hs hkp hp4 HM HP3 HS3 hG3 hne
  have HF:Hid _:=q19 v4 bz p0 0 pd 0 s1 s2 (xa*(yb:Int)+ya*(xb:Int)) (xb*yb) (2*KB+1) (by omega) HNS.out HD2.out HD0.out (G.lt hG4 hbz) HS4.out.2.1 HP4.out.2.1 (HZR.out.G hbz hG4) HS4.out.2.2 HP4.out.2.2
  go_wp2_with fail
  refine Calls.mono (P:=Tryz.prog) HF.out ?_
  intro e v5 hs
  obtain⟨rfl,k1,k2⟩:=NormTo.after hG4 hs
  have HK2:Hid _:=k2
  clear hs k2 HF HS4 HP4
  go_wp2_with fail
  go_ret
  exact⟨rfl,k1,HK2.out⟩
end Go.Proofs.YtljkfjjchkehaaaGreatDoor
