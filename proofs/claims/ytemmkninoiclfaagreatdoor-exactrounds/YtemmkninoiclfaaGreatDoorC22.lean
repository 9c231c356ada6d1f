/- What is proved here: contracts of the reference: powers of two as ratios, over this seat's translation.
What is proved here: contracts of the reference's ratios: den of any Rat, laid or new, over this seat's translation.
What is proved here: contracts of the reference's ratios: Add of Rat, of laid ones and of new ones, over this seat's translation.
What is proved here: contracts of the reference's ratios: Mul of Rat, of laid ones and of new ones, over this seat's translation.
What is proved here: contracts of the reference's ratios: Cmp of Rat, of laid ones and of new ones, over this seat's translation.
What is proved here: contracts of the reference's big numbers: 'copy' of words, low, of, SetBit of an Int that isn't below 0, over this seat's translation. -/
import Derived.Test.YtemmkninoiclfaaGreatDoorC21
import Derived.Test.YtemmkninoiclfaaGreatDoorC12
import Derived.Test.YtemmkninoiclfaaGreatDoorC17
import Derived.Laws.IdiomCopy
namespace Go.Proofs.YtemmkninoiclfaaGreatDoor
open Go.ChangeShapes Go.WideShapes Go.ChangeAt Go.RowKit
open BN
/-- A call hands back a new Rat; nothing that was there has turned. -/
def RetR (w:World) (sa:Int) (sb:Nat) (e:Ending) (w':World):Prop:=∃ p,e= .returned (.pointer (some ⟨p,0,none⟩))∧G w w'∧w.heap.size≤p∧p<w'.heap.size∧RatIs w' p sa (sb:Int)
theorem NormTo.ret {w0 w:World} {b:Nat} {sa:Int} {sb:Nat} {e:Ending} {w':World} (g:G w0 w) (hb:w0.heap.size≤b) (hs:b<w.heap.size) (h:NormTo w b sa sb e w'):RetR w0 sa sb e w':=
 ⟨b,h.1,GX.fresh g h.2.1 hb,hb,Nat.lt_of_lt_of_le hs h.2.1.size,h.2.2⟩
theorem qa4 (w:World) (k K:Nat) (hk:k≤6000) (hK:K≤300) (IK:k<32*K):Calls Tryz.prog 74 #[.int .i64 (k:Int)] w (RetR w (2^k:Nat) 1):=by
 have hkb:(k:Int)≤6000:=by omega
 have IL:Hid (2^k<2^(32*K)):=Nat.pow_lt_pow_right (by omega) IK
 have qL:Hid (1≤K∧1<2^(32*K)):=⟨by omega,Nat.one_lt_two_pow (by omega)⟩
 go_enter Tryz.func74,Tryz.ntmps74
 go_wp2_with fail
 have hn0:=NI.new (G.refl w) 38
 have cO:=(G.refl w).alloc (.cells #[.bool false,.slice none 0 0] 38)
 generalize w.heap.size=pn at *
 generalize w.alloc (.cells #[.bool false,.slice none 0 0] 38)=wa at *
 refine Calls.mono (P:=Tryz.prog) (q1q wa 1 (by omega)) ?_
 intro e w1 h
 obtain⟨p1,rfl,hg1,hp1,hp2,hpi⟩:=h
 have hG1:=G.trans cO hg1
 have hN1:=hn0.G hg1
 have HL:Hid _:=q1N w1 pn 0 p1 0 k 0 1 K (by omega) (by omega) qL.out.2 hN1.2.1 hp2 hN1.2.2 hpi
 have oO:Hid (NI w w1 pn 0):=hN1
 clear hn0 cO hg1 hp1 hp2 hpi hN1
 go_wp2_with fail
 refine Calls.mono (P:=Tryz.prog) HL.out ?_
 intro e w2 hs
 obtain⟨rfl,hG2,iX,-,-⟩:=SetTo.step hG1 oO.out hs
 rw[show (1:Int)*2^k=((2^k:Nat):Int) from by push_cast;rw[Int.one_mul]] at iX
 have dE:Hid (NI w w2 pn ((2^k:Nat):Int)):=iX
 clear hs iX HL oO hG1
 go_wp2_with fail
 have hr0:=q1p w2 40
 have hga:=(G.refl w2).alloc (.cells #[.bool false,.slice none 0 0,.bool false,.slice none 0 0] 40)
 have gW:=dE.out.G hga
 have hG3:=G.trans hG2 hga
 have hzs:w2.heap.size<(w2.alloc (.cells #[.bool false,.slice none 0 0,.bool false,.slice none 0 0] 40)).heap.size:=by simp
 have hz0:w.heap.size≤w2.heap.size:=hG2.size
 generalize w2.heap.size=pz at *
 generalize w2.alloc (.cells #[.bool false,.slice none 0 0,.bool false,.slice none 0 0] 40)=w3 at *
 have HS:Hid _:=q9l w3 pz pn 0 0 0 ((2^k:Nat):Int) K (by omega) qL.out.1 (by rw[Int.natAbs_natCast];exact IL.out) hzs gW.2.1 hr0 gW.2.2
 clear hr0 hga gW dE hG2
 refine Calls.mono (P:=Tryz.prog) HS.out ?_
 intro e w4 hs
 obtain⟨p,rfl,k1,k2,k3,k4⟩:=NormTo.ret hG3 hz0 hzs hs
 have zn:Hid (RatIs w4 p ((2^k:Nat):Int) ((1:Nat):Int)):=k4
 clear hs k4 HS
 go_wp2_with fail
 go_ret
 exact⟨p,rfl,k1,k2,k3,zn.out⟩
theorem q7G (w:World) (k K:Nat) (hk0:0<k) (hk:k≤6000) (hK:K≤300) (IK:k<32*K):Calls Tryz.prog 74 #[.int .i64 (-(k:Int))] w (RetR w 1 (2^k)):=by
 have hkb:(k:Int)≤6000:=by omega
 have hkp:(1:Int)≤k:=by omega
 have IL:Hid (2^k<2^(32*K)):=Nat.pow_lt_pow_right (by omega) IK
 have qL:Hid (1≤K∧1<2^(32*K)):=⟨by omega,Nat.one_lt_two_pow (by omega)⟩
 have GN:Hid (Int.tdiv 1 (Nat.gcd (1:Int).natAbs (2^k):Nat)=1∧2^k/Nat.gcd (1:Int).natAbs (2^k)=2^k):=by
  have:Nat.gcd (1:Int).natAbs (2^k)=1:=Nat.gcd_one_left _
  rw[this];exact⟨rfl,Nat.div_one _⟩
 go_enter Tryz.func74,Tryz.ntmps74
 go_wp2_with fail
 have hn0:=NI.new (G.refl w) 38
 have cO:=(G.refl w).alloc (.cells #[.bool false,.slice none 0 0] 38)
 generalize w.heap.size=pn at *
 generalize w.alloc (.cells #[.bool false,.slice none 0 0] 38)=wa at *
 refine Calls.mono (P:=Tryz.prog) (q1q wa 1 (by omega)) ?_
 intro e w1 h
 obtain⟨p1,rfl,hg1,hp1,hp2,hpi⟩:=h
 have hG1:=G.trans cO hg1
 have hN1:=hn0.G hg1
 have HL:Hid _:=q1N w1 pn 0 p1 0 k 0 1 K (by omega) (by omega) qL.out.2 hN1.2.1 hp2 hN1.2.2 hpi
 have oO:Hid (NI w w1 pn 0):=hN1
 clear hn0 cO hg1 hp1 hp2 hpi hN1
 go_wp2_with fail
 refine Calls.mono (P:=Tryz.prog) HL.out ?_
 intro e w2 hs
 obtain⟨rfl,hG2,iX,-,-⟩:=SetTo.step hG1 oO.out hs
 rw[show (1:Int)*2^k=((2^k:Nat):Int) from by push_cast;rw[Int.one_mul]] at iX
 have dE:Hid (NI w w2 pn ((2^k:Nat):Int)):=iX
 clear hs iX HL oO hG1
 go_wp2_with fail
 have hr0:=q1p w2 40
 have hga:=(G.refl w2).alloc (.cells #[.bool false,.slice none 0 0,.bool false,.slice none 0 0] 40)
 have gW:=dE.out.G hga
 have hG3:=G.trans hG2 hga
 have hzs:w2.heap.size<(w2.alloc (.cells #[.bool false,.slice none 0 0,.bool false,.slice none 0 0] 40)).heap.size:=by simp
 have hz0:w.heap.size≤w2.heap.size:=hG2.size
 generalize w2.heap.size=pz at *
 generalize w2.alloc (.cells #[.bool false,.slice none 0 0,.bool false,.slice none 0 0] 40)=w3 at *
 have HR3:Hid (RatIs w3 pz 0 0):=hr0
 have gK:Hid (NI w w3 pn ((2^k:Nat):Int)):=gW
 clear hr0 hga gW dE hG2
 refine Calls.mono (P:=Tryz.prog) (q1q w3 1 (by omega)) ?_
 intro e w4 h
 obtain⟨p4,rfl,hg4,-,Di,fP⟩:=h
 have hG4:=G.trans hG3 hg4
 have oP:=gK.out.G hg4
 have HS:Hid _:=q0Y w4 pz p4 0 pn 0 0 0 1 (2^k) K (by omega) qL.out.2 IL.out (Nat.two_pow_pos k) (G.lt hg4 hzs) Di oP.2.1 (HR3.out.G hzs hg4) fP oP.2.2
 rw[GN.out.1,GN.out.2] at HS
 have IM:=G.lt hg4 hzs
 clear hg4 Di fP oP gK HR3 hG3
 go_wp2_with fail
 refine Calls.mono (P:=Tryz.prog) HS.out ?_
 intro e w5 hs
 obtain⟨p,rfl,k1,k2,k3,k4⟩:=NormTo.ret hG4 hz0 IM hs
 have zn:Hid (RatIs w5 p 1 ((2^k:Nat):Int)):=k4
 clear hs k4 HS
 go_wp2_with fail
 go_ret
 exact⟨p,rfl,k1,k2,k3,zn.out⟩
/-- den: of a new Rat it is a new 1. -/
theorem qb3 (w:World) (b:Nat) (xb:Nat) (hxb:xb=1) (h:RatIs w b 0 0):
  Calls Tryz.prog 51 #[.pointer (some ⟨b,0,none⟩)] w (RetI w (xb:Int)):=by
 obtain⟨-,n,v,a,⟨c1,c2,-,-⟩,⟨l,hl,hcl,hlv⟩,h1,-⟩:=h
 have ha:=q0Q h1
 obtain⟨p,c,rfl,-,-⟩:=q0m hl
 have hl0:l.length=0:=by
  have h0:val l=0:=by rw[hlv];omega
  rw[(q0U hcl).1 h0]
  rfl
 rw[hl0] at c2
 have HN:Hid _:=q1q w (xb:Int) ⟨by omega,by omega⟩
 rw[hxb] at HN ⊢
 clear hl hcl hlv h1 ha hl0
 go_enter Tryz.func51,Tryz.ntmps51
 go_wp2_with fail
 refine Calls.mono (P:=Tryz.prog) HN.out ?_
 rintro e w2 ⟨p,rfl,k1,k2,k3,k4⟩
 have HK:Hid _:=k4
 clear k4 HN
 go_wp2_with fail
 go_ret
 exact⟨p,rfl,k1,k2,k3,HK.out⟩
/-- A Rat, laid or new (then it is 0). -/
def RatV (w:World) (b:Nat) (xa:Int) (xb:Nat):Prop:=RatIs w b xa (xb:Int)∨(xa=0∧xb=1∧RatIs w b 0 0)
theorem RatV.G {w w':World} {b:Nat} {xa:Int} {xb:Nat} (h:RatV w b xa xb) (hb:b<w.heap.size) (g:G w w'):RatV w' b xa xb:=by
 rcases h with h|⟨h1,h2,h⟩
 ·exact Or.inl (RatIs.G h hb g)
 ·exact Or.inr ⟨h1,h2,RatIs.G h hb g⟩
theorem RatV.num {w:World} {b:Nat} {xa:Int} {xb:Nat} (h:RatV w b xa xb):IntIs w b 0 xa:=by
 rcases h with h|⟨h1,-,h⟩
 ·exact h.1
 ·rw[h1];exact h.1
/-- A lower part: in the Rat itself, or new. -/
def DI (w0 w:World) (p o:Nat) (s:Int):Prop:=(p<w0.heap.size∧IntIs w0 p o s)∨(o=0∧NI w0 w p s)
theorem DI.G {w0 w w':World} {p o:Nat} {s:Int} (h:DI w0 w p o s) (g:Go.Proofs.YtemmkninoiclfaaGreatDoor.G w w'):DI w0 w' p o s:=by
 rcases h with h|⟨h1,h2⟩
 ·exact Or.inl h
 ·exact Or.inr ⟨h1,h2.G g⟩
theorem DI.is {w0 w:World} {p o:Nat} {s:Int} (h:DI w0 w p o s) (g:Go.Proofs.YtemmkninoiclfaaGreatDoor.G w0 w):p<w.heap.size∧IntIs w p o s:=by
 rcases h with ⟨h1,h2⟩|⟨rfl,h2⟩
 ·exact⟨G.lt g h1,IntIs.G h2 h1 g⟩
 ·exact h2.2
theorem DI.keep {w0 w w':World} {p o:Nat} {s:Int} (h:DI w0 w p o s) (k:NI w0 w p s→NI w0 w' p s):DI w0 w' p o s:=by
 rcases h with h|⟨h1,h2⟩
 ·exact Or.inl h
 ·exact Or.inr ⟨h1,k h2⟩
theorem q0J (w0 w:World) (g:G w0 w) (b:Nat) (xa:Int) (xb:Nat) (hxb:0<xb) (hb:b<w0.heap.size) (h:RatV w0 b xa xb):
  Calls Tryz.prog 51 #[.pointer (some ⟨b,0,none⟩)] w fun e w'=>∃ p o,e= .returned (.pointer (some ⟨p,o,none⟩))∧G w w'∧DI w0 w' p o (xb:Int)∧(p<w0.heap.size∨w.heap.size≤p):=by
 rcases h with h|⟨-,h2,h⟩
 ·refine Calls.mono (P:=Tryz.prog) (q4r w b xa xb (by omega) (h.G hb g)) ?_
  rintro e w' ⟨rfl,g'⟩
  exact⟨b,2,rfl,g',Or.inl ⟨hb,h.2⟩,Or.inl hb⟩
 ·refine Calls.mono (P:=Tryz.prog) (qb3 w b xb h2 (h.G hb g)) ?_
  rintro e w' ⟨p,rfl,g',k1,k2,k3⟩
  exact⟨p,0,rfl,g',Or.inr ⟨rfl,Nat.le_trans g.size k1,k2,k3⟩,Or.inr k1⟩
set_option maxRecDepth 10000 in
set_option maxHeartbeats 8000000 in
theorem qbG (w:World) (bz bx b2:Nat) (s1 s2 xa ya:Int) (xb yb:Nat) (KB:Nat) (hK:KB≤100000) (hx2:xa.natAbs<2^(32*KB)) (hy2:ya.natAbs<2^(32*KB)) (gT:xb<2^(32*KB)) (iy:yb<2^(32*KB)) (hxb:0<xb) (hyb:0<yb)
  (hbz:bz<w.heap.size) (hbx:bx<w.heap.size) (hby:b2<w.heap.size) (hz:RatIs w bz s1 s2) (hx:RatV w bx xa xb) (hy:RatV w b2 ya yb):
  Calls Tryz.prog 12 #[.pointer (some ⟨bz,0,none⟩),.pointer (some ⟨bx,0,none⟩),.pointer (some ⟨b2,0,none⟩)] w (NormTo w bz (Int.tdiv (xa*(yb:Int)+ya*(xb:Int)) (Nat.gcd (xa*(yb:Int)+ya*(xb:Int)).natAbs (xb*yb):Nat)) (xb*yb/Nat.gcd (xa*(yb:Int)+ya*(xb:Int)).natAbs (xb*yb))):=by
 have jr:Hid (xa.natAbs<2^(32*KB)):=hx2
 have lU:Hid (ya.natAbs<2^(32*KB)):=hy2
 have lW:Hid ((xb:Int).natAbs<2^(32*KB)):=by show (xb:Int).natAbs<2^(32*KB);rw[Int.natAbs_natCast];exact gT
 have jv:Hid ((yb:Int).natAbs<2^(32*KB)):=by show (yb:Int).natAbs<2^(32*KB);rw[Int.natAbs_natCast];exact iy
 have HX0:Hid (IntIs w bx 0 xa):=hx.num
 have sS:Hid (IntIs w b2 0 ya):=hy.num
 have oU:Hid (RatV w bx xa xb):=hx
 have lq:Hid (RatV w b2 ya yb):=hy
 have G8:Hid (RatIs w bz s1 s2):=hz
 have iA:0<xb:=hxb
 have dZ:0<yb:=hyb
 have xK:32*(2*KB)=32*KB+32*KB:=by omega
 have hn1:(xa*(yb:Int)).natAbs<2^(32*(2*KB)):=by
  rw[Int.natAbs_mul,Int.natAbs_natCast,xK,Nat.pow_add]
  exact Nat.mul_lt_mul'' hx2 iy
 have hn2:(ya*(xb:Int)).natAbs<2^(32*(2*KB)):=by
  rw[Int.natAbs_mul,Int.natAbs_natCast,xK,Nat.pow_add]
  exact Nat.mul_lt_mul'' hy2 gT
 have hd2:xb*yb<2^(32*(2*KB)):=by
  rw[xK,Nat.pow_add]
  exact Nat.mul_lt_mul'' gT iy
 have hup:2^(32*(2*KB))*2≤2^(32*(2*KB+1)):=by rw[← Nat.pow_succ];exact Nat.pow_le_pow_right (by omega) (by omega)
 have oO:Hid ((xa*(yb:Int)).natAbs<2^(32*(2*KB))):=hn1
 have dE:Hid ((ya*(xb:Int)).natAbs<2^(32*(2*KB))):=hn2
 have U6:Hid ((xa*(yb:Int)+ya*(xb:Int)).natAbs<2^(32*(2*KB+1))):=by
  show (xa*(yb:Int)+ya*(xb:Int)).natAbs<2^(32*(2*KB+1))
  have:=Int.natAbs_add_le (xa*(yb:Int)) (ya*(xb:Int))
  omega
 have HD2:Hid (xb*yb<2^(32*(2*KB+1))):=by show xb*yb<2^(32*(2*KB+1));omega
 have HD0:Hid (0<xb*yb):=Nat.mul_pos hxb hyb
 clear hx hy hz hx2 hy2 gT iy hxb hyb xK hn1 hn2 hd2 hup
 go_enter Tryz.func12,Tryz.ntmps12
 go_wp2_with fail
 apply share
 ·intro LX
  refine q0K 15 (G w) (by kernel_rfl) (by first|exact(G.refl _).drew|exact G.drew (by assumption)) ?_
  intro bS
  refine q00 2 (v:= ?_) rfl (by kernel_rfl) (fun _ _ _ h=>h) rfl ?_ ‹_› ?_
  rotate_left
  ·intro wq hwq
   first|(go_simp;done)|(go_simp;with_reducible rfl)
  try simp only[aput,List.set]
  refine q00 3 (v:= ?_) rfl (by kernel_rfl) (fun _ _ _ h=>h) rfl ?_ ‹_› ?_
  rotate_left
  ·intro wq hwq
   first|(go_simp;done)|(go_simp;with_reducible rfl)
  try simp only[aput,List.set]
  refine q00 4 (v:= ?_) rfl (by kernel_rfl) (fun _ _ _ h=>h) rfl ?_ ‹_› ?_
  rotate_left
  ·intro wq hwq
   first|(go_simp;done)|(go_simp;with_reducible rfl)
  try simp only[aput,List.set]
  refine q00 5 (v:= ?_) rfl (by kernel_rfl) (fun _ _ _ h=>h) rfl ?_ ‹_› ?_
  rotate_left
  ·intro wq hwq
   first|(go_simp;done)|(go_simp;with_reducible rfl)
  try simp only[aput,List.set]
  refine q00 9 (v:= ?_) rfl (by kernel_rfl) (fun _ _ _ h=>h) rfl ?_ ‹_› ?_
  rotate_left
  ·intro wq hwq
   first|(go_simp;done)|(go_simp;with_reducible rfl)
  try simp only[aput,List.set]
  refine q00 10 (v:= ?_) rfl (by kernel_rfl) (fun _ _ _ h=>h) rfl ?_ ‹_› ?_
  rotate_left
  ·intro wq hwq
   first|(go_simp;done)|(go_simp;with_reducible rfl)
  try simp only[aput,List.set]
  refine q00 11 (v:= ?_) rfl (by kernel_rfl) (fun _ _ _ h=>h) rfl ?_ ‹_› ?_
  rotate_left
  ·intro wq hwq
   first|(go_simp;done)|(go_simp;with_reducible rfl)
  try simp only[aput,List.set]
  refine q00 12 (v:= ?_) rfl (by kernel_rfl) (fun _ _ _ h=>h) rfl ?_ ‹_› ?_
  rotate_left
  ·intro wq hwq
   first|(go_simp;done)|(go_simp;with_reducible rfl)
  try simp only[aput,List.set]
  show q0E _ _ _ _ _ _ _ _ _ w.drew
  have hS5:=bS
  generalize w.drew=w5 at *
  clear bS
  apply share
  intro mq
  apply share
  intro kY
  apply share
  intro nH
  apply share
  intro qY
  apply share
  intro dA
  apply share
  intro nI
  apply share
  intro vH
  apply share
  intro eQ
  apply share
  intro vI
  apply share
  intro vJ
  apply share
  intro vK
  apply share
  intro iB
  apply share
  intro G9
  apply share
  intro Ga
  apply share
  intro Gb
  apply share
  intro kZ
  apply share
  intro oH
  apply share
  intro oI
  refine q5X (i:=0) (j:=1) (l:=6) (m:=8) (by kernel_rfl) rfl rfl rfl rfl ?_ ?_ ?_ ?_
  ·skip
   intro K hK
   go_simp
   refine hK.out _ _ (Or.inr (hS5.alloc _)) ?_
   clear hK K
   have hn:=NI.new hS5 38
   have hal:=(G.refl w5).alloc (.cells #[.bool false,.slice none 0 0] 38)
   have aP:=G.trans hS5 hal
   generalize w5.heap.size=p0 at *
   generalize w5.alloc (.cells #[.bool false,.slice none 0 0] 38)=w6 at *
   have wz:=hid hn
   clear hn hal
   refine q0H (i:=1) (j:=6) (l:=8) (by kernel_rfl) rfl rfl rfl ?_ ?_ ?_
   ·skip
    intro K hK
    go_simp
    refine hK.out _ _ (Or.inr (aP.alloc _)) ?_
    clear hK K
    have hn:=NI.new aP 38
    have hal:=(G.refl w6).alloc (.cells #[.bool false,.slice none 0 0] 38)
    have aD:=G.trans aP hal
    have iE:=hid (wz.out.G hal)
    have aH:w6.heap.size≠p0:=by have:=wz.out.2.1;omega
    generalize w6.heap.size=p1 at *
    generalize w6.alloc (.cells #[.bool false,.slice none 0 0] 38)=w7 at *
    have dB:=hid hn
    have au:Hid (p0≠p1):=aH.symm
    have av:Hid (p1≠p0):=aH
    clear hn hal aP wz aH
    refine q02 (l':=#[true,true,true,true,true,true,false,false,false,true,true,true,true,false,false,false,false]) (by kernel_rfl) ?_
    revert av
    revert au
    revert dB
    revert iE
    revert aD
    revert p1
    revert p0
    revert w7
    exact G9.out
   ·skip
    intro K hK
    go_simp
    go_wp2_with (go_at_call 51;refine Calls.mono (P:=Tryz.prog) (q0J w w6 aP b2 ya yb dZ hby lq.out) ?_;intro e w7 hx;obtain⟨p4,o4,rfl,hg,h72,fH⟩:=hx)
    refine hK.out _ _ (Or.inr (G.trans aP hg)) ?_
    clear hK K
    have aD:=G.trans aP hg
    have HD7:=hid h72
    have aH:p4≠p0:=by have h1:=wz.out.1;have h2:=wz.out.2.1;omega
    have iE:=hid (wz.out.G hg)
    have ax:Hid (p4≠p0):=aH
    clear hg h72 fH aP wz aH
    refine q02 (l':=#[true,false,true,true,true,true,true,false,false,true,true,true,true,false,false,false,false]) (by kernel_rfl) ?_
    revert ax
    revert HD7
    revert iE
    revert aD
    revert o4
    revert p4
    revert p0
    revert w7
    exact Gb.out
   ·skip
    intro K hK
    go_simp
    refine hK.out _ _ (Or.inr (aP.alloc _)) ?_
    clear hK K
    have hn:=NI.new aP 38
    have hal:=(G.refl w6).alloc (.cells #[.bool false,.slice none 0 0] 38)
    have aD:=G.trans aP hal
    have iE:=hid (wz.out.G hal)
    have aH:w6.heap.size≠p0:=by have:=wz.out.2.1;omega
    generalize w6.heap.size=p2 at *
    generalize w6.alloc (.cells #[.bool false,.slice none 0 0] 38)=w7 at *
    have dJ:=hid hn
    have az:Hid (p0≠p2):=aH.symm
    have aA:Hid (p2≠p0):=aH
    clear hn hal aP wz aH
    refine q02 (l':=#[true,false,true,true,true,true,false,false,true,true,true,true,true,false,false,false,false]) (by kernel_rfl) ?_
    revert aA
    revert az
    revert dJ
    revert iE
    revert aD
    revert p2
    revert p0
    revert w7
    exact Ga.out
  ·skip
   intro K hK
   go_simp
   refine hK.out _ _ (Or.inr (hS5.alloc _)) ?_
   clear hK K
   have hn:=NI.new hS5 38
   have hal:=(G.refl w5).alloc (.cells #[.bool false,.slice none 0 0] 38)
   have aP:=G.trans hS5 hal
   generalize w5.heap.size=p1 at *
   generalize w5.alloc (.cells #[.bool false,.slice none 0 0] 38)=w6 at *
   have nS:=hid hn
   clear hn hal
   refine q0H (i:=0) (j:=6) (l:=8) (by kernel_rfl) rfl rfl rfl ?_ ?_ ?_
   ·skip
    intro K hK
    go_simp
    refine hK.out _ _ (Or.inr (aP.alloc _)) ?_
    clear hK K
    have hn:=NI.new aP 38
    have hal:=(G.refl w6).alloc (.cells #[.bool false,.slice none 0 0] 38)
    have aD:=G.trans aP hal
    have dB:=hid (nS.out.G hal)
    have ae:w6.heap.size≠p1:=by have:=nS.out.2.1;omega
    generalize w6.heap.size=p0 at *
    generalize w6.alloc (.cells #[.bool false,.slice none 0 0] 38)=w7 at *
    have iE:=hid hn
    have av:Hid (p1≠p0):=ae.symm
    have au:Hid (p0≠p1):=ae
    clear hn hal aP nS ae
    refine q02 (l':=#[true,true,true,true,true,true,false,false,false,true,true,true,true,false,false,false,false]) (by kernel_rfl) ?_
    revert av
    revert au
    revert dB
    revert iE
    revert aD
    revert p1
    revert p0
    revert w7
    exact G9.out
   ·skip
    intro K hK
    go_simp
    go_wp2_with (go_at_call 51;refine Calls.mono (P:=Tryz.prog) (q0J w w6 aP b2 ya yb dZ hby lq.out) ?_;intro e w7 hx;obtain⟨p4,o4,rfl,hg,h72,fH⟩:=hx)
    refine hK.out _ _ (Or.inr (G.trans aP hg)) ?_
    clear hK K
    have aD:=G.trans aP hg
    have HD7:=hid h72
    have ae:p4≠p1:=by have h1:=nS.out.1;have h2:=nS.out.2.1;omega
    have dB:=hid (nS.out.G hg)
    have aa:Hid (p4≠p1):=ae
    clear hg h72 fH aP nS ae
    refine q02 (l':=#[false,true,true,true,true,true,true,false,false,true,true,true,true,false,false,false,false]) (by kernel_rfl) ?_
    revert aa
    revert HD7
    revert dB
    revert aD
    revert o4
    revert p4
    revert p1
    revert w7
    exact oH.out
   ·skip
    intro K hK
    go_simp
    refine hK.out _ _ (Or.inr (aP.alloc _)) ?_
    clear hK K
    have hn:=NI.new aP 38
    have hal:=(G.refl w6).alloc (.cells #[.bool false,.slice none 0 0] 38)
    have aD:=G.trans aP hal
    have dB:=hid (nS.out.G hal)
    have ae:w6.heap.size≠p1:=by have:=nS.out.2.1;omega
    generalize w6.heap.size=p2 at *
    generalize w6.alloc (.cells #[.bool false,.slice none 0 0] 38)=w7 at *
    have dJ:=hid hn
    have af:Hid (p1≠p2):=ae.symm
    have ag:Hid (p2≠p1):=ae
    clear hn hal aP nS ae
    refine q02 (l':=#[false,true,true,true,true,true,false,false,true,true,true,true,true,false,false,false,false]) (by kernel_rfl) ?_
    revert af
    revert ag
    revert dJ
    revert dB
    revert aD
    revert p2
    revert p1
    revert w7
    exact kZ.out
  ·skip
   intro K hK
   go_simp
   go_wp2_with (go_at_call 51;refine Calls.mono (P:=Tryz.prog) (q0J w w5 hS5 b2 ya yb dZ hby lq.out) ?_;intro e w6 hx;obtain⟨p4,o4,rfl,hg,h72,fH⟩:=hx)
   refine hK.out _ _ (Or.inr (G.trans hS5 hg)) ?_
   clear hK K
   have aP:=G.trans hS5 hg
   have HD6:=hid h72
   clear hg h72 fH
   refine q0H (i:=0) (j:=1) (l:=8) (by kernel_rfl) rfl rfl rfl ?_ ?_ ?_
   ·skip
    intro K hK
    go_simp
    refine hK.out _ _ (Or.inr (aP.alloc _)) ?_
    clear hK K
    have hn:=NI.new aP 38
    have hal:=(G.refl w6).alloc (.cells #[.bool false,.slice none 0 0] 38)
    have aD:=G.trans aP hal
    have HD7:=hid (HD6.out.G hal)
    have ak:w6.heap.size≠p4:=by have:=(HD6.out.is aP).1;omega
    generalize w6.heap.size=p0 at *
    generalize w6.alloc (.cells #[.bool false,.slice none 0 0] 38)=w7 at *
    have iE:=hid hn
    have ax:Hid (p4≠p0):=ak.symm
    clear hn hal aP HD6 ak
    refine q02 (l':=#[true,false,true,true,true,true,true,false,false,true,true,true,true,false,false,false,false]) (by kernel_rfl) ?_
    revert ax
    revert HD7
    revert iE
    revert aD
    revert o4
    revert p4
    revert p0
    revert w7
    exact Gb.out
   ·skip
    intro K hK
    go_simp
    refine hK.out _ _ (Or.inr (aP.alloc _)) ?_
    clear hK K
    have hn:=NI.new aP 38
    have hal:=(G.refl w6).alloc (.cells #[.bool false,.slice none 0 0] 38)
    have aD:=G.trans aP hal
    have HD7:=hid (HD6.out.G hal)
    have ak:w6.heap.size≠p4:=by have:=(HD6.out.is aP).1;omega
    generalize w6.heap.size=p1 at *
    generalize w6.alloc (.cells #[.bool false,.slice none 0 0] 38)=w7 at *
    have dB:=hid hn
    have aa:Hid (p4≠p1):=ak.symm
    clear hn hal aP HD6 ak
    refine q02 (l':=#[false,true,true,true,true,true,true,false,false,true,true,true,true,false,false,false,false]) (by kernel_rfl) ?_
    revert aa
    revert HD7
    revert dB
    revert aD
    revert o4
    revert p4
    revert p1
    revert w7
    exact oH.out
   ·skip
    intro K hK
    go_simp
    refine hK.out _ _ (Or.inr (aP.alloc _)) ?_
    clear hK K
    have hn:=NI.new aP 38
    have hal:=(G.refl w6).alloc (.cells #[.bool false,.slice none 0 0] 38)
    have aD:=G.trans aP hal
    have HD7:=hid (HD6.out.G hal)
    have ak:w6.heap.size≠p4:=by have:=(HD6.out.is aP).1;omega
    generalize w6.heap.size=p2 at *
    generalize w6.alloc (.cells #[.bool false,.slice none 0 0] 38)=w7 at *
    have dJ:=hid hn
    have ah:Hid (p4≠p2):=ak.symm
    clear hn hal aP HD6 ak
    refine q02 (l':=#[false,false,true,true,true,true,true,false,true,true,true,true,true,false,false,false,false]) (by kernel_rfl) ?_
    revert ah
    revert dJ
    revert HD7
    revert aD
    revert p2
    revert o4
    revert p4
    revert w7
    exact oI.out
  ·skip
   intro K hK
   go_simp
   refine hK.out _ _ (Or.inr (hS5.alloc _)) ?_
   clear hK K
   have hn:=NI.new hS5 38
   have hal:=(G.refl w5).alloc (.cells #[.bool false,.slice none 0 0] 38)
   have aP:=G.trans hS5 hal
   generalize w5.heap.size=p2 at *
   generalize w5.alloc (.cells #[.bool false,.slice none 0 0] 38)=w6 at *
   have nT:=hid hn
   clear hn hal
   refine q0H (i:=0) (j:=1) (l:=6) (by kernel_rfl) rfl rfl rfl ?_ ?_ ?_
   ·skip
    intro K hK
    go_simp
    refine hK.out _ _ (Or.inr (aP.alloc _)) ?_
    clear hK K
    have hn:=NI.new aP 38
    have hal:=(G.refl w6).alloc (.cells #[.bool false,.slice none 0 0] 38)
    have aD:=G.trans aP hal
    have dJ:=hid (nT.out.G hal)
    have ay:w6.heap.size≠p2:=by have:=nT.out.2.1;omega
    generalize w6.heap.size=p0 at *
    generalize w6.alloc (.cells #[.bool false,.slice none 0 0] 38)=w7 at *
    have iE:=hid hn
    have aA:Hid (p2≠p0):=ay.symm
    have az:Hid (p0≠p2):=ay
    clear hn hal aP nT ay
    refine q02 (l':=#[true,false,true,true,true,true,false,false,true,true,true,true,true,false,false,false,false]) (by kernel_rfl) ?_
    revert aA
    revert az
    revert dJ
    revert iE
    revert aD
    revert p2
    revert p0
    revert w7
    exact Ga.out
   ·skip
    intro K hK
    go_simp
    refine hK.out _ _ (Or.inr (aP.alloc _)) ?_
    clear hK K
    have hn:=NI.new aP 38
    have hal:=(G.refl w6).alloc (.cells #[.bool false,.slice none 0 0] 38)
    have aD:=G.trans aP hal
    have dJ:=hid (nT.out.G hal)
    have ay:w6.heap.size≠p2:=by have:=nT.out.2.1;omega
    generalize w6.heap.size=p1 at *
    generalize w6.alloc (.cells #[.bool false,.slice none 0 0] 38)=w7 at *
    have dB:=hid hn
    have ag:Hid (p2≠p1):=ay.symm
    have af:Hid (p1≠p2):=ay
    clear hn hal aP nT ay
    refine q02 (l':=#[false,true,true,true,true,true,false,false,true,true,true,true,true,false,false,false,false]) (by kernel_rfl) ?_
    revert af
    revert ag
    revert dJ
    revert dB
    revert aD
    revert p2
    revert p1
    revert w7
    exact kZ.out
   ·skip
    intro K hK
    go_simp
    go_wp2_with (go_at_call 51;refine Calls.mono (P:=Tryz.prog) (q0J w w6 aP b2 ya yb dZ hby lq.out) ?_;intro e w7 hx;obtain⟨p4,o4,rfl,hg,h72,fH⟩:=hx)
    refine hK.out _ _ (Or.inr (G.trans aP hg)) ?_
    clear hK K
    have aD:=G.trans aP hg
    have HD7:=hid h72
    have ay:p4≠p2:=by have h1:=nT.out.1;have h2:=nT.out.2.1;omega
    have dJ:=hid (nT.out.G hg)
    have ah:Hid (p4≠p2):=ay
    clear hg h72 fH aP nT ay
    refine q02 (l':=#[false,false,true,true,true,true,true,false,true,true,true,true,true,false,false,false,false]) (by kernel_rfl) ?_
    revert ah
    revert dJ
    revert HD7
    revert aD
    revert p2
    revert o4
    revert p4
    revert w7
    exact oI.out
  refine Later.mk ?_
  intro w7 p4 o4 p2 aD HD7 dJ ah
  refine q0c (i:=0) (j:=1) (by kernel_rfl) rfl rfl ?_ ?_
  ·skip
   intro K hK
   go_simp
   refine hK.out _ _ (Or.inr (aD.alloc _)) ?_
   clear hK K
   have hn:=NI.new aD 38
   have hal:=(G.refl w7).alloc (.cells #[.bool false,.slice none 0 0] 38)
   have aJ:=G.trans aD hal
   have bJ:=hid (HD7.out.G hal)
   have fT:=hid (dJ.out.G hal)
   have ak:w7.heap.size≠p4:=by have:=(HD7.out.is aD).1;omega
   have ay:w7.heap.size≠p2:=by have:=dJ.out.2.1;omega
   generalize w7.heap.size=p0 at *
   generalize w7.alloc (.cells #[.bool false,.slice none 0 0] 38)=w8 at *
   have iP:=hid hn
   have ax:Hid (p4≠p0):=ak.symm
   have aA:Hid (p2≠p0):=ay.symm
   have az:Hid (p0≠p2):=ay
   clear hn hal aD HD7 dJ ak ay
   refine q02 (l':=#[true,false,true,true,true,true,true,false,true,true,true,true,true,false,false,false,false]) (by kernel_rfl) ?_
   revert aA
   revert ax
   revert ah
   revert az
   revert fT
   revert bJ
   revert iP
   revert aJ
   revert p2
   revert o4
   revert p4
   revert p0
   revert w8
   exact vK.out
  ·skip
   intro K hK
   go_simp
   refine hK.out _ _ (Or.inr (aD.alloc _)) ?_
   clear hK K
   have hn:=NI.new aD 38
   have hal:=(G.refl w7).alloc (.cells #[.bool false,.slice none 0 0] 38)
   have aJ:=G.trans aD hal
   have bJ:=hid (HD7.out.G hal)
   have fT:=hid (dJ.out.G hal)
   have ak:w7.heap.size≠p4:=by have:=(HD7.out.is aD).1;omega
   have ay:w7.heap.size≠p2:=by have:=dJ.out.2.1;omega
   generalize w7.heap.size=p1 at *
   generalize w7.alloc (.cells #[.bool false,.slice none 0 0] 38)=w8 at *
   have bR:=hid hn
   have aa:Hid (p4≠p1):=ak.symm
   have ag:Hid (p2≠p1):=ay.symm
   have af:Hid (p1≠p2):=ay
   clear hn hal aD HD7 dJ ak ay
   refine q02 (l':=#[false,true,true,true,true,true,true,false,true,true,true,true,true,false,false,false,false]) (by kernel_rfl) ?_
   revert ah
   revert af
   revert ag
   revert aa
   revert fT
   revert bJ
   revert bR
   revert aJ
   revert p2
   revert o4
   revert p4
   revert p1
   revert w8
   exact iB.out
  refine Later.mk ?_
  intro w7 p1 p4 o4 aD dB HD7 aa
  refine q0H (i:=0) (j:=7) (l:=8) (by kernel_rfl) rfl rfl rfl ?_ ?_ ?_
  ·skip
   intro K hK
   go_simp
   refine hK.out _ _ (Or.inr (aD.alloc _)) ?_
   clear hK K
   have hn:=NI.new aD 38
   have hal:=(G.refl w7).alloc (.cells #[.bool false,.slice none 0 0] 38)
   have aJ:=G.trans aD hal
   have bR:=hid (dB.out.G hal)
   have bJ:=hid (HD7.out.G hal)
   have ae:w7.heap.size≠p1:=by have:=dB.out.2.1;omega
   have ak:w7.heap.size≠p4:=by have:=(HD7.out.is aD).1;omega
   generalize w7.heap.size=p0 at *
   generalize w7.alloc (.cells #[.bool false,.slice none 0 0] 38)=w8 at *
   have iP:=hid hn
   have av:Hid (p1≠p0):=ae.symm
   have au:Hid (p0≠p1):=ae
   have ax:Hid (p4≠p0):=ak.symm
   clear hn hal aD dB HD7 ae ak
   refine q02 (l':=#[true,true,true,true,true,true,true,false,false,true,true,true,true,false,false,false,false]) (by kernel_rfl) ?_
   revert ax
   revert av
   revert aa
   revert au
   revert bJ
   revert bR
   revert iP
   revert aJ
   revert o4
   revert p4
   revert p1
   revert p0
   revert w8
   exact vJ.out
  ·skip
   intro K hK
   go_simp
   have eT:Hid _:=q1o w7 p1 0 bx 0 p4 o4 0 xa yb KB (by omega) jr.out jv.out dB.out.2.1 (G.lt aD hbx) (HD7.out.is aD).1 dB.out.2.2 (IntIs.G HX0.out hbx aD) (HD7.out.is aD).2
   go_wp2_with (go_at_call 50;refine Calls.mono (P:=Tryz.prog) eT.out ?_;intro e w8 hx;obtain⟨rfl,aJ,hl,-,hkp⟩:=SetTo.step aD dB.out hx)
   have bR:=hid hl
   have bJ:=hid (DI.keep HD7.out (hkp _ _ aa.out))
   refine hK.out _ _ (Or.inr aJ) ?_
   clear hK K hx hl hkp eT aD dB HD7
   refine q0H (i:=0) (j:=8) (l:=13) (by kernel_rfl) rfl rfl rfl ?_ ?_ ?_
   ·skip
    intro K hK
    go_simp
    refine hK.out _ _ (Or.inr (aJ.alloc _)) ?_
    clear hK K
    have hn:=NI.new aJ 38
    have hal:=(G.refl w8).alloc (.cells #[.bool false,.slice none 0 0] 38)
    have aZ:=G.trans aJ hal
    have dF:=hid (bR.out.G hal)
    have bQ:=hid (bJ.out.G hal)
    have ae:w8.heap.size≠p1:=by have:=bR.out.2.1;omega
    have ak:w8.heap.size≠p4:=by have:=(bJ.out.is aJ).1;omega
    generalize w8.heap.size=p0 at *
    generalize w8.alloc (.cells #[.bool false,.slice none 0 0] 38)=w9 at *
    have lu:=hid hn
    have av:Hid (p1≠p0):=ae.symm
    have au:Hid (p0≠p1):=ae
    have ax:Hid (p4≠p0):=ak.symm
    clear hn hal aJ bR bJ ae ak
    refine q02 (l':=#[true,true,true,true,true,true,true,true,false,true,true,true,true,false,false,false,false]) (by kernel_rfl) ?_
    revert ax
    revert av
    revert aa
    revert au
    revert bQ
    revert dF
    revert lu
    revert aZ
    revert o4
    revert p4
    revert p1
    revert p0
    revert w9
    exact vH.out
   ·skip
    intro K hK
    go_simp
    refine hK.out _ _ (Or.inr (aJ.alloc _)) ?_
    clear hK K
    have hn:=NI.new aJ 38
    have hal:=(G.refl w8).alloc (.cells #[.bool false,.slice none 0 0] 38)
    have aZ:=G.trans aJ hal
    have dF:=hid (bR.out.G hal)
    have bQ:=hid (bJ.out.G hal)
    have ae:w8.heap.size≠p1:=by have:=bR.out.2.1;omega
    have ak:w8.heap.size≠p4:=by have:=(bJ.out.is aJ).1;omega
    generalize w8.heap.size=p2 at *
    generalize w8.alloc (.cells #[.bool false,.slice none 0 0] 38)=w9 at *
    have jh:=hid hn
    have af:Hid (p1≠p2):=ae.symm
    have ag:Hid (p2≠p1):=ae
    have ah:Hid (p4≠p2):=ak.symm
    clear hn hal aJ bR bJ ae ak
    refine q02 (l':=#[false,true,true,true,true,true,true,true,true,true,true,true,true,false,false,false,false]) (by kernel_rfl) ?_
    revert ah
    revert af
    revert ag
    revert aa
    revert jh
    revert bQ
    revert dF
    revert aZ
    revert p2
    revert o4
    revert p4
    revert p1
    revert w9
    exact eQ.out
   ·skip
    intro K hK
    go_simp
    go_wp2_with (go_at_call 51;refine Calls.mono (P:=Tryz.prog) (q0J w w8 aJ bx xa xb iA hbx oU.out) ?_;intro e w9 hx;obtain⟨p3,o3,rfl,hg,h72,fH⟩:=hx)
    refine hK.out _ _ (Or.inr (G.trans aJ hg)) ?_
    clear hK K
    have aZ:=G.trans aJ hg
    have qZ:=hid h72
    have ae:p3≠p1:=by have h1:=bR.out.1;have h2:=bR.out.2.1;omega
    have dF:=hid (bR.out.G hg)
    have bQ:=hid (bJ.out.G hg)
    have aK:Hid (p3≠p1):=ae
    clear hg h72 fH aJ bR bJ ae
    refine q0c (i:=0) (j:=8) (by kernel_rfl) rfl rfl ?_ ?_
    ·skip
     intro K hK
     go_simp
     refine hK.out _ _ (Or.inr (aZ.alloc _)) ?_
     clear hK K
     have hn:=NI.new aZ 38
     have hal:=(G.refl w9).alloc (.cells #[.bool false,.slice none 0 0] 38)
     have aI:=G.trans aZ hal
     have bH:=hid (dF.out.G hal)
     have bF:=hid (bQ.out.G hal)
     have bK:=hid (qZ.out.G hal)
     have ae:w9.heap.size≠p1:=by have:=dF.out.2.1;omega
     have ak:w9.heap.size≠p4:=by have:=(bQ.out.is aZ).1;omega
     have cK:w9.heap.size≠p3:=by have:=(qZ.out.is aZ).1;omega
     generalize w9.heap.size=p0 at *
     generalize w9.alloc (.cells #[.bool false,.slice none 0 0] 38)=bE at *
     have eY:=hid hn
     have av:Hid (p1≠p0):=ae.symm
     have au:Hid (p0≠p1):=ae
     have ax:Hid (p4≠p0):=ak.symm
     have bg:Hid (p3≠p0):=cK.symm
     clear hn hal aZ dF bQ qZ ae ak cK
     refine q02 (l':=#[true,true,true,true,true,true,true,true,false,true,true,true,true,true,false,false,false]) (by kernel_rfl) ?_
     revert bg
     revert ax
     revert av
     revert aK
     revert aa
     revert au
     revert bK
     revert bF
     revert bH
     revert eY
     revert aI
     revert o3
     revert p3
     revert o4
     revert p4
     revert p1
     revert p0
     revert bE
     exact qY.out
    ·skip
     intro K hK
     go_simp
     refine hK.out _ _ (Or.inr (aZ.alloc _)) ?_
     clear hK K
     have hn:=NI.new aZ 38
     have hal:=(G.refl w9).alloc (.cells #[.bool false,.slice none 0 0] 38)
     have aI:=G.trans aZ hal
     have bH:=hid (dF.out.G hal)
     have bF:=hid (bQ.out.G hal)
     have bK:=hid (qZ.out.G hal)
     have ae:w9.heap.size≠p1:=by have:=dF.out.2.1;omega
     have ak:w9.heap.size≠p4:=by have:=(bQ.out.is aZ).1;omega
     have cK:w9.heap.size≠p3:=by have:=(qZ.out.is aZ).1;omega
     generalize w9.heap.size=p2 at *
     generalize w9.alloc (.cells #[.bool false,.slice none 0 0] 38)=bE at *
     have bP:=hid hn
     have af:Hid (p1≠p2):=ae.symm
     have ag:Hid (p2≠p1):=ae
     have ah:Hid (p4≠p2):=ak.symm
     have aL:Hid (p3≠p2):=cK.symm
     clear hn hal aZ dF bQ qZ ae ak cK
     refine q02 (l':=#[false,true,true,true,true,true,true,true,true,true,true,true,true,true,false,false,false]) (by kernel_rfl) ?_
     revert aL
     revert ah
     revert af
     revert aK
     revert ag
     revert aa
     revert bK
     revert bP
     revert bF
     revert bH
     revert aI
     revert o3
     revert p3
     revert p2
     revert o4
     revert p4
     revert p1
     revert bE
     exact dA.out
  ·skip
   intro K hK
   go_simp
   refine hK.out _ _ (Or.inr (aD.alloc _)) ?_
   clear hK K
   have hn:=NI.new aD 38
   have hal:=(G.refl w7).alloc (.cells #[.bool false,.slice none 0 0] 38)
   have aJ:=G.trans aD hal
   have bR:=hid (dB.out.G hal)
   have bJ:=hid (HD7.out.G hal)
   have ae:w7.heap.size≠p1:=by have:=dB.out.2.1;omega
   have ak:w7.heap.size≠p4:=by have:=(HD7.out.is aD).1;omega
   generalize w7.heap.size=p2 at *
   generalize w7.alloc (.cells #[.bool false,.slice none 0 0] 38)=w8 at *
   have fT:=hid hn
   have af:Hid (p1≠p2):=ae.symm
   have ag:Hid (p2≠p1):=ae
   have ah:Hid (p4≠p2):=ak.symm
   clear hn hal aD dB HD7 ae ak
   refine q02 (l':=#[false,true,true,true,true,true,true,false,true,true,true,true,true,false,false,false,false]) (by kernel_rfl) ?_
   revert ah
   revert af
   revert ag
   revert aa
   revert fT
   revert bJ
   revert bR
   revert aJ
   revert p2
   revert o4
   revert p4
   revert p1
   revert w8
   exact iB.out
  refine Later.mk ?_
  intro w7 p1 p2 aD dB dJ ag af
  refine q0c (i:=0) (j:=6) (by kernel_rfl) rfl rfl ?_ ?_
  ·skip
   intro K hK
   go_simp
   refine hK.out _ _ (Or.inr (aD.alloc _)) ?_
   clear hK K
   have hn:=NI.new aD 38
   have hal:=(G.refl w7).alloc (.cells #[.bool false,.slice none 0 0] 38)
   have aJ:=G.trans aD hal
   have bR:=hid (dB.out.G hal)
   have fT:=hid (dJ.out.G hal)
   have ae:w7.heap.size≠p1:=by have:=dB.out.2.1;omega
   have ay:w7.heap.size≠p2:=by have:=dJ.out.2.1;omega
   generalize w7.heap.size=p0 at *
   generalize w7.alloc (.cells #[.bool false,.slice none 0 0] 38)=w8 at *
   have iP:=hid hn
   have av:Hid (p1≠p0):=ae.symm
   have au:Hid (p0≠p1):=ae
   have aA:Hid (p2≠p0):=ay.symm
   have az:Hid (p0≠p2):=ay
   clear hn hal aD dB dJ ae ay
   refine q02 (l':=#[true,true,true,true,true,true,false,false,true,true,true,true,true,false,false,false,false]) (by kernel_rfl) ?_
   revert aA
   revert av
   revert af
   revert az
   revert ag
   revert au
   revert fT
   revert bR
   revert iP
   revert aJ
   revert p2
   revert p1
   revert p0
   revert w8
   exact vI.out
  ·skip
   intro K hK
   go_simp
   go_wp2_with (go_at_call 51;refine Calls.mono (P:=Tryz.prog) (q0J w w7 aD b2 ya yb dZ hby lq.out) ?_;intro e w8 hx;obtain⟨p4,o4,rfl,hg,h72,fH⟩:=hx)
   refine hK.out _ _ (Or.inr (G.trans aD hg)) ?_
   clear hK K
   have aJ:=G.trans aD hg
   have bJ:=hid h72
   have ae:p4≠p1:=by have h1:=dB.out.1;have h2:=dB.out.2.1;omega
   have ay:p4≠p2:=by have h1:=dJ.out.1;have h2:=dJ.out.2.1;omega
   have bR:=hid (dB.out.G hg)
   have fT:=hid (dJ.out.G hg)
   have aa:Hid (p4≠p1):=ae
   have ah:Hid (p4≠p2):=ay
   clear hg h72 fH aD dB dJ ae ay
   refine q02 (l':=#[false,true,true,true,true,true,true,false,true,true,true,true,true,false,false,false,false]) (by kernel_rfl) ?_
   revert ah
   revert af
   revert ag
   revert aa
   revert fT
   revert bJ
   revert bR
   revert aJ
   revert p2
   revert o4
   revert p4
   revert p1
   revert w8
   exact iB.out
  refine Later.mk ?_
  intro w7 p0 p4 o4 aD iE HD7 ax
  refine q0c (i:=1) (j:=8) (by kernel_rfl) rfl rfl ?_ ?_
  ·skip
   intro K hK
   go_simp
   refine hK.out _ _ (Or.inr (aD.alloc _)) ?_
   clear hK K
   have hn:=NI.new aD 38
   have hal:=(G.refl w7).alloc (.cells #[.bool false,.slice none 0 0] 38)
   have aJ:=G.trans aD hal
   have iP:=hid (iE.out.G hal)
   have bJ:=hid (HD7.out.G hal)
   have aH:w7.heap.size≠p0:=by have:=iE.out.2.1;omega
   have ak:w7.heap.size≠p4:=by have:=(HD7.out.is aD).1;omega
   generalize w7.heap.size=p1 at *
   generalize w7.alloc (.cells #[.bool false,.slice none 0 0] 38)=w8 at *
   have bR:=hid hn
   have au:Hid (p0≠p1):=aH.symm
   have av:Hid (p1≠p0):=aH
   have aa:Hid (p4≠p1):=ak.symm
   clear hn hal aD iE HD7 aH ak
   refine q02 (l':=#[true,true,true,true,true,true,true,false,false,true,true,true,true,false,false,false,false]) (by kernel_rfl) ?_
   revert ax
   revert av
   revert aa
   revert au
   revert bJ
   revert bR
   revert iP
   revert aJ
   revert o4
   revert p4
   revert p1
   revert p0
   revert w8
   exact vJ.out
  ·skip
   intro K hK
   go_simp
   refine hK.out _ _ (Or.inr (aD.alloc _)) ?_
   clear hK K
   have hn:=NI.new aD 38
   have hal:=(G.refl w7).alloc (.cells #[.bool false,.slice none 0 0] 38)
   have aJ:=G.trans aD hal
   have iP:=hid (iE.out.G hal)
   have bJ:=hid (HD7.out.G hal)
   have aH:w7.heap.size≠p0:=by have:=iE.out.2.1;omega
   have ak:w7.heap.size≠p4:=by have:=(HD7.out.is aD).1;omega
   generalize w7.heap.size=p2 at *
   generalize w7.alloc (.cells #[.bool false,.slice none 0 0] 38)=w8 at *
   have fT:=hid hn
   have az:Hid (p0≠p2):=aH.symm
   have aA:Hid (p2≠p0):=aH
   have ah:Hid (p4≠p2):=ak.symm
   clear hn hal aD iE HD7 aH ak
   refine q02 (l':=#[true,false,true,true,true,true,true,false,true,true,true,true,true,false,false,false,false]) (by kernel_rfl) ?_
   revert aA
   revert ax
   revert ah
   revert az
   revert fT
   revert bJ
   revert iP
   revert aJ
   revert p2
   revert o4
   revert p4
   revert p0
   revert w8
   exact vK.out
  refine Later.mk ?_
  intro w7 p0 p2 aD iE dJ az aA
  refine q0c (i:=1) (j:=6) (by kernel_rfl) rfl rfl ?_ ?_
  ·skip
   intro K hK
   go_simp
   refine hK.out _ _ (Or.inr (aD.alloc _)) ?_
   clear hK K
   have hn:=NI.new aD 38
   have hal:=(G.refl w7).alloc (.cells #[.bool false,.slice none 0 0] 38)
   have aJ:=G.trans aD hal
   have iP:=hid (iE.out.G hal)
   have fT:=hid (dJ.out.G hal)
   have aH:w7.heap.size≠p0:=by have:=iE.out.2.1;omega
   have ay:w7.heap.size≠p2:=by have:=dJ.out.2.1;omega
   generalize w7.heap.size=p1 at *
   generalize w7.alloc (.cells #[.bool false,.slice none 0 0] 38)=w8 at *
   have bR:=hid hn
   have au:Hid (p0≠p1):=aH.symm
   have av:Hid (p1≠p0):=aH
   have ag:Hid (p2≠p1):=ay.symm
   have af:Hid (p1≠p2):=ay
   clear hn hal aD iE dJ aH ay
   refine q02 (l':=#[true,true,true,true,true,true,false,false,true,true,true,true,true,false,false,false,false]) (by kernel_rfl) ?_
   revert aA
   revert av
   revert af
   revert az
   revert ag
   revert au
   revert fT
   revert bR
   revert iP
   revert aJ
   revert p2
   revert p1
   revert p0
   revert w8
   exact vI.out
  ·skip
   intro K hK
   go_simp
   go_wp2_with (go_at_call 51;refine Calls.mono (P:=Tryz.prog) (q0J w w7 aD b2 ya yb dZ hby lq.out) ?_;intro e w8 hx;obtain⟨p4,o4,rfl,hg,h72,fH⟩:=hx)
   refine hK.out _ _ (Or.inr (G.trans aD hg)) ?_
   clear hK K
   have aJ:=G.trans aD hg
   have bJ:=hid h72
   have aH:p4≠p0:=by have h1:=iE.out.1;have h2:=iE.out.2.1;omega
   have ay:p4≠p2:=by have h1:=dJ.out.1;have h2:=dJ.out.2.1;omega
   have iP:=hid (iE.out.G hg)
   have fT:=hid (dJ.out.G hg)
   have ax:Hid (p4≠p0):=aH
   have ah:Hid (p4≠p2):=ay
   clear hg h72 fH aD iE dJ aH ay
   refine q02 (l':=#[true,false,true,true,true,true,true,false,true,true,true,true,true,false,false,false,false]) (by kernel_rfl) ?_
   revert aA
   revert ax
   revert ah
   revert az
   revert fT
   revert bJ
   revert iP
   revert aJ
   revert p2
   revert o4
   revert p4
   revert p0
   revert w8
   exact vK.out
  refine Later.mk ?_
  intro w7 p0 p1 aD iE dB au av
  refine q0c (i:=6) (j:=8) (by kernel_rfl) rfl rfl ?_ ?_
  ·skip
   intro K hK
   go_simp
   go_wp2_with (go_at_call 51;refine Calls.mono (P:=Tryz.prog) (q0J w w7 aD b2 ya yb dZ hby lq.out) ?_;intro e w8 hx;obtain⟨p4,o4,rfl,hg,h72,fH⟩:=hx)
   refine hK.out _ _ (Or.inr (G.trans aD hg)) ?_
   clear hK K
   have aJ:=G.trans aD hg
   have bJ:=hid h72
   have aH:p4≠p0:=by have h1:=iE.out.1;have h2:=iE.out.2.1;omega
   have ae:p4≠p1:=by have h1:=dB.out.1;have h2:=dB.out.2.1;omega
   have iP:=hid (iE.out.G hg)
   have bR:=hid (dB.out.G hg)
   have ax:Hid (p4≠p0):=aH
   have aa:Hid (p4≠p1):=ae
   clear hg h72 fH aD iE dB aH ae
   refine q02 (l':=#[true,true,true,true,true,true,true,false,false,true,true,true,true,false,false,false,false]) (by kernel_rfl) ?_
   revert ax
   revert av
   revert aa
   revert au
   revert bJ
   revert bR
   revert iP
   revert aJ
   revert o4
   revert p4
   revert p1
   revert p0
   revert w8
   exact vJ.out
  ·skip
   intro K hK
   go_simp
   refine hK.out _ _ (Or.inr (aD.alloc _)) ?_
   clear hK K
   have hn:=NI.new aD 38
   have hal:=(G.refl w7).alloc (.cells #[.bool false,.slice none 0 0] 38)
   have aJ:=G.trans aD hal
   have iP:=hid (iE.out.G hal)
   have bR:=hid (dB.out.G hal)
   have aH:w7.heap.size≠p0:=by have:=iE.out.2.1;omega
   have ae:w7.heap.size≠p1:=by have:=dB.out.2.1;omega
   generalize w7.heap.size=p2 at *
   generalize w7.alloc (.cells #[.bool false,.slice none 0 0] 38)=w8 at *
   have fT:=hid hn
   have az:Hid (p0≠p2):=aH.symm
   have aA:Hid (p2≠p0):=aH
   have af:Hid (p1≠p2):=ae.symm
   have ag:Hid (p2≠p1):=ae
   clear hn hal aD iE dB aH ae
   refine q02 (l':=#[true,true,true,true,true,true,false,false,true,true,true,true,true,false,false,false,false]) (by kernel_rfl) ?_
   revert aA
   revert av
   revert af
   revert az
   revert ag
   revert au
   revert fT
   revert bR
   revert iP
   revert aJ
   revert p2
   revert p1
   revert p0
   revert w8
   exact vI.out
  refine Later.mk ?_
  intro w8 p1 p4 o4 p2 aJ bR bJ fT aa ag af ah
  refine q0c (i:=0) (j:=7) (by kernel_rfl) rfl rfl ?_ ?_
  ·skip
   intro K hK
   go_simp
   refine hK.out _ _ (Or.inr (aJ.alloc _)) ?_
   clear hK K
   have hn:=NI.new aJ 38
   have hal:=(G.refl w8).alloc (.cells #[.bool false,.slice none 0 0] 38)
   have aZ:=G.trans aJ hal
   have dF:=hid (bR.out.G hal)
   have bQ:=hid (bJ.out.G hal)
   have jh:=hid (fT.out.G hal)
   have ae:w8.heap.size≠p1:=by have:=bR.out.2.1;omega
   have ak:w8.heap.size≠p4:=by have:=(bJ.out.is aJ).1;omega
   have ay:w8.heap.size≠p2:=by have:=fT.out.2.1;omega
   generalize w8.heap.size=p0 at *
   generalize w8.alloc (.cells #[.bool false,.slice none 0 0] 38)=w9 at *
   have lu:=hid hn
   have av:Hid (p1≠p0):=ae.symm
   have au:Hid (p0≠p1):=ae
   have ax:Hid (p4≠p0):=ak.symm
   have aA:Hid (p2≠p0):=ay.symm
   have az:Hid (p0≠p2):=ay
   clear hn hal aJ bR bJ fT ae ak ay
   refine q02 (l':=#[true,true,true,true,true,true,true,false,true,true,true,true,true,false,false,false,false]) (by kernel_rfl) ?_
   revert aA
   revert ax
   revert av
   revert ah
   revert af
   revert az
   revert ag
   revert aa
   revert au
   revert jh
   revert bQ
   revert dF
   revert lu
   revert aZ
   revert p2
   revert o4
   revert p4
   revert p1
   revert p0
   revert w9
   exact nI.out
  ·skip
   intro K hK
   go_simp
   have eT:Hid _:=q1o w8 p1 0 bx 0 p4 o4 0 xa yb KB (by omega) jr.out jv.out bR.out.2.1 (G.lt aJ hbx) (bJ.out.is aJ).1 bR.out.2.2 (IntIs.G HX0.out hbx aJ) (bJ.out.is aJ).2
   go_wp2_with (go_at_call 50;refine Calls.mono (P:=Tryz.prog) eT.out ?_;intro e w9 hx;obtain⟨rfl,aZ,hl,-,hkp⟩:=SetTo.step aJ bR.out hx)
   have dF:=hid hl
   have bQ:=hid (DI.keep bJ.out (hkp _ _ aa.out))
   have jh:=hid (hkp _ _ ag.out fT.out)
   refine hK.out _ _ (Or.inr aZ) ?_
   clear hK K hx hl hkp eT aJ bR bJ fT
   refine q02 (l':=#[false,true,true,true,true,true,true,true,true,true,true,true,true,false,false,false,false]) (by kernel_rfl) ?_
   revert ah
   revert af
   revert ag
   revert aa
   revert jh
   revert bQ
   revert dF
   revert aZ
   revert p2
   revert o4
   revert p4
   revert p1
   revert w9
   exact eQ.out
  refine Later.mk ?_
  intro w8 p0 p4 o4 p2 aJ iP bJ fT az ah ax aA
  refine q03 (i:=1) (by kernel_rfl) rfl ?_
  intro K hK
  go_simp
  refine hK.out _ _ (Or.inr (aJ.alloc _)) ?_
  clear hK K
  have hn:=NI.new aJ 38
  have hal:=(G.refl w8).alloc (.cells #[.bool false,.slice none 0 0] 38)
  have aZ:=G.trans aJ hal
  have lu:=hid (iP.out.G hal)
  have bQ:=hid (bJ.out.G hal)
  have jh:=hid (fT.out.G hal)
  have aH:w8.heap.size≠p0:=by have:=iP.out.2.1;omega
  have ak:w8.heap.size≠p4:=by have:=(bJ.out.is aJ).1;omega
  have ay:w8.heap.size≠p2:=by have:=fT.out.2.1;omega
  generalize w8.heap.size=p1 at *
  generalize w8.alloc (.cells #[.bool false,.slice none 0 0] 38)=w9 at *
  have dF:=hid hn
  have au:Hid (p0≠p1):=aH.symm
  have av:Hid (p1≠p0):=aH
  have aa:Hid (p4≠p1):=ak.symm
  have ag:Hid (p2≠p1):=ay.symm
  have af:Hid (p1≠p2):=ay
  clear hn hal aJ iP bJ fT aH ak ay
  refine q02 (l':=#[true,true,true,true,true,true,true,false,true,true,true,true,true,false,false,false,false]) (by kernel_rfl) ?_
  revert aA
  revert ax
  revert av
  revert ah
  revert af
  revert az
  revert ag
  revert aa
  revert au
  revert jh
  revert bQ
  revert dF
  revert lu
  revert aZ
  revert p2
  revert o4
  revert p4
  revert p1
  revert p0
  revert w9
  exact nI.out
  refine Later.mk ?_
  intro w8 p0 p1 p4 o4 aJ iP bR bJ au aa av ax
  refine q0c (i:=7) (j:=8) (by kernel_rfl) rfl rfl ?_ ?_
  ·skip
   intro K hK
   go_simp
   have eT:Hid _:=q1o w8 p1 0 bx 0 p4 o4 0 xa yb KB (by omega) jr.out jv.out bR.out.2.1 (G.lt aJ hbx) (bJ.out.is aJ).1 bR.out.2.2 (IntIs.G HX0.out hbx aJ) (bJ.out.is aJ).2
   go_wp2_with (go_at_call 50;refine Calls.mono (P:=Tryz.prog) eT.out ?_;intro e w9 hx;obtain⟨rfl,aZ,hl,-,hkp⟩:=SetTo.step aJ bR.out hx)
   have dF:=hid hl
   have lu:=hid (hkp _ _ au.out iP.out)
   have bQ:=hid (DI.keep bJ.out (hkp _ _ aa.out))
   refine hK.out _ _ (Or.inr aZ) ?_
   clear hK K hx hl hkp eT aJ iP bR bJ
   refine q02 (l':=#[true,true,true,true,true,true,true,true,false,true,true,true,true,false,false,false,false]) (by kernel_rfl) ?_
   revert ax
   revert av
   revert aa
   revert au
   revert bQ
   revert dF
   revert lu
   revert aZ
   revert o4
   revert p4
   revert p1
   revert p0
   revert w9
   exact vH.out
  ·skip
   intro K hK
   go_simp
   refine hK.out _ _ (Or.inr (aJ.alloc _)) ?_
   clear hK K
   have hn:=NI.new aJ 38
   have hal:=(G.refl w8).alloc (.cells #[.bool false,.slice none 0 0] 38)
   have aZ:=G.trans aJ hal
   have lu:=hid (iP.out.G hal)
   have dF:=hid (bR.out.G hal)
   have bQ:=hid (bJ.out.G hal)
   have aH:w8.heap.size≠p0:=by have:=iP.out.2.1;omega
   have ae:w8.heap.size≠p1:=by have:=bR.out.2.1;omega
   have ak:w8.heap.size≠p4:=by have:=(bJ.out.is aJ).1;omega
   generalize w8.heap.size=p2 at *
   generalize w8.alloc (.cells #[.bool false,.slice none 0 0] 38)=w9 at *
   have jh:=hid hn
   have az:Hid (p0≠p2):=aH.symm
   have aA:Hid (p2≠p0):=aH
   have af:Hid (p1≠p2):=ae.symm
   have ag:Hid (p2≠p1):=ae
   have ah:Hid (p4≠p2):=ak.symm
   clear hn hal aJ iP bR bJ aH ae ak
   refine q02 (l':=#[true,true,true,true,true,true,true,false,true,true,true,true,true,false,false,false,false]) (by kernel_rfl) ?_
   revert aA
   revert ax
   revert av
   revert ah
   revert af
   revert az
   revert ag
   revert aa
   revert au
   revert jh
   revert bQ
   revert dF
   revert lu
   revert aZ
   revert p2
   revert o4
   revert p4
   revert p1
   revert p0
   revert w9
   exact nI.out
  refine Later.mk ?_
  intro w8 p0 p1 p2 aJ iP bR fT au ag az af av aA
  refine q03 (i:=6) (by kernel_rfl) rfl ?_
  intro K hK
  go_simp
  go_wp2_with (go_at_call 51;refine Calls.mono (P:=Tryz.prog) (q0J w w8 aJ b2 ya yb dZ hby lq.out) ?_;intro e w9 hx;obtain⟨p4,o4,rfl,hg,h72,fH⟩:=hx)
  refine hK.out _ _ (Or.inr (G.trans aJ hg)) ?_
  clear hK K
  have aZ:=G.trans aJ hg
  have bQ:=hid h72
  have aH:p4≠p0:=by have h1:=iP.out.1;have h2:=iP.out.2.1;omega
  have ae:p4≠p1:=by have h1:=bR.out.1;have h2:=bR.out.2.1;omega
  have ay:p4≠p2:=by have h1:=fT.out.1;have h2:=fT.out.2.1;omega
  have lu:=hid (iP.out.G hg)
  have dF:=hid (bR.out.G hg)
  have jh:=hid (fT.out.G hg)
  have ax:Hid (p4≠p0):=aH
  have aa:Hid (p4≠p1):=ae
  have ah:Hid (p4≠p2):=ay
  clear hg h72 fH aJ iP bR fT aH ae ay
  refine q02 (l':=#[true,true,true,true,true,true,true,false,true,true,true,true,true,false,false,false,false]) (by kernel_rfl) ?_
  revert aA
  revert ax
  revert av
  revert ah
  revert af
  revert az
  revert ag
  revert aa
  revert au
  revert jh
  revert bQ
  revert dF
  revert lu
  revert aZ
  revert p2
  revert o4
  revert p4
  revert p1
  revert p0
  revert w9
  exact nI.out
  refine Later.mk ?_
  intro w9 p1 p4 o4 p2 aZ dF bQ jh aa ag af ah
  refine q0c (i:=0) (j:=13) (by kernel_rfl) rfl rfl ?_ ?_
  ·skip
   intro K hK
   go_simp
   refine hK.out _ _ (Or.inr (aZ.alloc _)) ?_
   clear hK K
   have hn:=NI.new aZ 38
   have hal:=(G.refl w9).alloc (.cells #[.bool false,.slice none 0 0] 38)
   have aI:=G.trans aZ hal
   have bH:=hid (dF.out.G hal)
   have bF:=hid (bQ.out.G hal)
   have bP:=hid (jh.out.G hal)
   have ae:w9.heap.size≠p1:=by have:=dF.out.2.1;omega
   have ak:w9.heap.size≠p4:=by have:=(bQ.out.is aZ).1;omega
   have ay:w9.heap.size≠p2:=by have:=jh.out.2.1;omega
   generalize w9.heap.size=p0 at *
   generalize w9.alloc (.cells #[.bool false,.slice none 0 0] 38)=bE at *
   have eY:=hid hn
   have av:Hid (p1≠p0):=ae.symm
   have au:Hid (p0≠p1):=ae
   have ax:Hid (p4≠p0):=ak.symm
   have aA:Hid (p2≠p0):=ay.symm
   have az:Hid (p0≠p2):=ay
   clear hn hal aZ dF bQ jh ae ak ay
   refine q02 (l':=#[true,true,true,true,true,true,true,true,true,true,true,true,true,false,false,false,false]) (by kernel_rfl) ?_
   revert aA
   revert ax
   revert av
   revert ah
   revert af
   revert az
   revert ag
   revert aa
   revert au
   revert bP
   revert bF
   revert bH
   revert eY
   revert aI
   revert p2
   revert o4
   revert p4
   revert p1
   revert p0
   revert bE
   exact nH.out
  ·skip
   intro K hK
   go_simp
   go_wp2_with (go_at_call 51;refine Calls.mono (P:=Tryz.prog) (q0J w w9 aZ bx xa xb iA hbx oU.out) ?_;intro e bE hx;obtain⟨p3,o3,rfl,hg,h72,fH⟩:=hx)
   refine hK.out _ _ (Or.inr (G.trans aZ hg)) ?_
   clear hK K
   have aI:=G.trans aZ hg
   have bK:=hid h72
   have ae:p3≠p1:=by have h1:=dF.out.1;have h2:=dF.out.2.1;omega
   have ay:p3≠p2:=by have h1:=jh.out.1;have h2:=jh.out.2.1;omega
   have bH:=hid (dF.out.G hg)
   have bF:=hid (bQ.out.G hg)
   have bP:=hid (jh.out.G hg)
   have aK:Hid (p3≠p1):=ae
   have aL:Hid (p3≠p2):=ay
   clear hg h72 fH aZ dF bQ jh ae ay
   refine q02 (l':=#[false,true,true,true,true,true,true,true,true,true,true,true,true,true,false,false,false]) (by kernel_rfl) ?_
   revert aL
   revert ah
   revert af
   revert aK
   revert ag
   revert aa
   revert bK
   revert bP
   revert bF
   revert bH
   revert aI
   revert o3
   revert p3
   revert p2
   revert o4
   revert p4
   revert p1
   revert bE
   exact dA.out
  refine Later.mk ?_
  intro w9 p0 p1 p4 o4 aZ lu dF bQ au aa av ax
  refine q0c (i:=8) (j:=13) (by kernel_rfl) rfl rfl ?_ ?_
  ·skip
   intro K hK
   go_simp
   refine hK.out _ _ (Or.inr (aZ.alloc _)) ?_
   clear hK K
   have hn:=NI.new aZ 38
   have hal:=(G.refl w9).alloc (.cells #[.bool false,.slice none 0 0] 38)
   have aI:=G.trans aZ hal
   have eY:=hid (lu.out.G hal)
   have bH:=hid (dF.out.G hal)
   have bF:=hid (bQ.out.G hal)
   have aH:w9.heap.size≠p0:=by have:=lu.out.2.1;omega
   have ae:w9.heap.size≠p1:=by have:=dF.out.2.1;omega
   have ak:w9.heap.size≠p4:=by have:=(bQ.out.is aZ).1;omega
   generalize w9.heap.size=p2 at *
   generalize w9.alloc (.cells #[.bool false,.slice none 0 0] 38)=bE at *
   have bP:=hid hn
   have az:Hid (p0≠p2):=aH.symm
   have aA:Hid (p2≠p0):=aH
   have af:Hid (p1≠p2):=ae.symm
   have ag:Hid (p2≠p1):=ae
   have ah:Hid (p4≠p2):=ak.symm
   clear hn hal aZ lu dF bQ aH ae ak
   refine q02 (l':=#[true,true,true,true,true,true,true,true,true,true,true,true,true,false,false,false,false]) (by kernel_rfl) ?_
   revert aA
   revert ax
   revert av
   revert ah
   revert af
   revert az
   revert ag
   revert aa
   revert au
   revert bP
   revert bF
   revert bH
   revert eY
   revert aI
   revert p2
   revert o4
   revert p4
   revert p1
   revert p0
   revert bE
   exact nH.out
  ·skip
   intro K hK
   go_simp
   go_wp2_with (go_at_call 51;refine Calls.mono (P:=Tryz.prog) (q0J w w9 aZ bx xa xb iA hbx oU.out) ?_;intro e bE hx;obtain⟨p3,o3,rfl,hg,h72,fH⟩:=hx)
   refine hK.out _ _ (Or.inr (G.trans aZ hg)) ?_
   clear hK K
   have aI:=G.trans aZ hg
   have bK:=hid h72
   have aH:p3≠p0:=by have h1:=lu.out.1;have h2:=lu.out.2.1;omega
   have ae:p3≠p1:=by have h1:=dF.out.1;have h2:=dF.out.2.1;omega
   have eY:=hid (lu.out.G hg)
   have bH:=hid (dF.out.G hg)
   have bF:=hid (bQ.out.G hg)
   have bg:Hid (p3≠p0):=aH
   have aK:Hid (p3≠p1):=ae
   clear hg h72 fH aZ lu dF bQ aH ae
   refine q02 (l':=#[true,true,true,true,true,true,true,true,false,true,true,true,true,true,false,false,false]) (by kernel_rfl) ?_
   revert bg
   revert ax
   revert av
   revert aK
   revert aa
   revert au
   revert bK
   revert bF
   revert bH
   revert eY
   revert aI
   revert o3
   revert p3
   revert o4
   revert p4
   revert p1
   revert p0
   revert bE
   exact qY.out
  refine Later.mk ?_
  intro w9 p0 p1 p4 o4 p2 aZ lu dF bQ jh au aa ag az af ah av ax aA
  refine q03 (i:=7) (by kernel_rfl) rfl ?_
  intro K hK
  go_simp
  have eT:Hid _:=q1o w9 p1 0 bx 0 p4 o4 0 xa yb KB (by omega) jr.out jv.out dF.out.2.1 (G.lt aZ hbx) (bQ.out.is aZ).1 dF.out.2.2 (IntIs.G HX0.out hbx aZ) (bQ.out.is aZ).2
  go_wp2_with (go_at_call 50;refine Calls.mono (P:=Tryz.prog) eT.out ?_;intro e bE hx;obtain⟨rfl,aI,hl,-,hkp⟩:=SetTo.step aZ dF.out hx)
  have bH:=hid hl
  have eY:=hid (hkp _ _ au.out lu.out)
  have bF:=hid (DI.keep bQ.out (hkp _ _ aa.out))
  have bP:=hid (hkp _ _ ag.out jh.out)
  refine hK.out _ _ (Or.inr aI) ?_
  clear hK K hx hl hkp eT aZ lu dF bQ jh
  refine q02 (l':=#[true,true,true,true,true,true,true,true,true,true,true,true,true,false,false,false,false]) (by kernel_rfl) ?_
  revert aA
  revert ax
  revert av
  revert ah
  revert af
  revert az
  revert ag
  revert aa
  revert au
  revert bP
  revert bF
  revert bH
  revert eY
  revert aI
  revert p2
  revert o4
  revert p4
  revert p1
  revert p0
  revert bE
  exact nH.out
  refine Later.mk ?_
  intro bE p1 p4 o4 p2 p3 o3 aI bH bF bP bK aa ag aK af ah aL
  refine q0c (i:=0) (j:=14) (by kernel_rfl) rfl rfl ?_ ?_
  ·skip
   intro K hK
   go_simp
   refine hK.out _ _ (Or.inr (aI.alloc _)) ?_
   clear hK K
   have hn:=NI.new aI 38
   have hal:=(G.refl bE).alloc (.cells #[.bool false,.slice none 0 0] 38)
   have bI:=G.trans aI hal
   have iC:=hid (bH.out.G hal)
   have iK:=hid (bF.out.G hal)
   have gG:=hid (bP.out.G hal)
   have gU:=hid (bK.out.G hal)
   have ae:bE.heap.size≠p1:=by have:=bH.out.2.1;omega
   have ak:bE.heap.size≠p4:=by have:=(bF.out.is aI).1;omega
   have ay:bE.heap.size≠p2:=by have:=bP.out.2.1;omega
   have cK:bE.heap.size≠p3:=by have:=(bK.out.is aI).1;omega
   generalize bE.heap.size=p0 at *
   generalize bE.alloc (.cells #[.bool false,.slice none 0 0] 38)=eB at *
   have oJ:=hid hn
   have av:Hid (p1≠p0):=ae.symm
   have au:Hid (p0≠p1):=ae
   have ax:Hid (p4≠p0):=ak.symm
   have aA:Hid (p2≠p0):=ay.symm
   have az:Hid (p0≠p2):=ay
   have bg:Hid (p3≠p0):=cK.symm
   clear hn hal aI bH bF bP bK ae ak ay cK
   refine q02 (l':=#[true,true,true,true,true,true,true,true,true,true,true,true,true,true,false,false,false]) (by kernel_rfl) ?_
   revert bg
   revert aA
   revert ax
   revert av
   revert aL
   revert ah
   revert af
   revert az
   revert aK
   revert ag
   revert aa
   revert au
   revert gU
   revert gG
   revert iK
   revert iC
   revert oJ
   revert bI
   revert o3
   revert p3
   revert p2
   revert o4
   revert p4
   revert p1
   revert p0
   revert eB
   exact kY.out
  ·skip
   intro K hK
   go_simp
   have eT:Hid _:=q1o bE p2 0 b2 0 p3 o3 0 ya xb KB (by omega) lU.out lW.out bP.out.2.1 (G.lt aI hby) (bK.out.is aI).1 bP.out.2.2 (IntIs.G sS.out hby aI) (bK.out.is aI).2
   go_wp2_with (go_at_call 50;refine Calls.mono (P:=Tryz.prog) eT.out ?_;intro e eB hx;obtain⟨rfl,bI,hl,-,hkp⟩:=SetTo.step aI bP.out hx)
   have gG:=hid hl
   have iC:=hid (hkp _ _ af.out bH.out)
   have iK:=hid (DI.keep bF.out (hkp _ _ ah.out))
   have gU:=hid (DI.keep bK.out (hkp _ _ aL.out))
   refine hK.out _ _ (Or.inr bI) ?_
   clear hK K hx hl hkp eT aI bH bF bP bK
   refine q03 (i:=0) (by kernel_rfl) rfl ?_
   intro K hK
   go_simp
   refine hK.out _ _ (Or.inr (bI.alloc _)) ?_
   clear hK K
   have hn:=NI.new bI 38
   have hal:=(G.refl eB).alloc (.cells #[.bool false,.slice none 0 0] 38)
   have l5:=G.trans bI hal
   have jm:=hid (iC.out.G hal)
   have nJ:=hid (iK.out.G hal)
   have jl:=hid (gG.out.G hal)
   have nK:=hid (gU.out.G hal)
   have ae:eB.heap.size≠p1:=by have:=iC.out.2.1;omega
   have ak:eB.heap.size≠p4:=by have:=(iK.out.is bI).1;omega
   have ay:eB.heap.size≠p2:=by have:=gG.out.2.1;omega
   have cK:eB.heap.size≠p3:=by have:=(gU.out.is bI).1;omega
   generalize eB.heap.size=p0 at *
   generalize eB.alloc (.cells #[.bool false,.slice none 0 0] 38)=gV at *
   have jZ:=hid hn
   have av:Hid (p1≠p0):=ae.symm
   have au:Hid (p0≠p1):=ae
   have ax:Hid (p4≠p0):=ak.symm
   have aA:Hid (p2≠p0):=ay.symm
   have az:Hid (p0≠p2):=ay
   have bg:Hid (p3≠p0):=cK.symm
   clear hn hal bI iC iK gG gU ae ak ay cK
   refine q02 (l':=#[true,true,true,true,true,true,true,true,true,true,true,true,true,true,true,false,false]) (by kernel_rfl) ?_
   revert bg
   revert aA
   revert ax
   revert av
   revert aL
   revert ah
   revert af
   revert az
   revert aK
   revert ag
   revert aa
   revert au
   revert nK
   revert jl
   revert nJ
   revert jm
   revert jZ
   revert l5
   revert o3
   revert p3
   revert p2
   revert o4
   revert p4
   revert p1
   revert p0
   revert gV
   exact mq.out
  refine Later.mk ?_
  intro bE p0 p1 p4 o4 p3 o3 aI eY bH bF bK au aa aK av ax bg
  refine q03 (i:=8) (by kernel_rfl) rfl ?_
  intro K hK
  go_simp
  refine hK.out _ _ (Or.inr (aI.alloc _)) ?_
  clear hK K
  have hn:=NI.new aI 38
  have hal:=(G.refl bE).alloc (.cells #[.bool false,.slice none 0 0] 38)
  have bI:=G.trans aI hal
  have oJ:=hid (eY.out.G hal)
  have iC:=hid (bH.out.G hal)
  have iK:=hid (bF.out.G hal)
  have gU:=hid (bK.out.G hal)
  have aH:bE.heap.size≠p0:=by have:=eY.out.2.1;omega
  have ae:bE.heap.size≠p1:=by have:=bH.out.2.1;omega
  have ak:bE.heap.size≠p4:=by have:=(bF.out.is aI).1;omega
  have cK:bE.heap.size≠p3:=by have:=(bK.out.is aI).1;omega
  generalize bE.heap.size=p2 at *
  generalize bE.alloc (.cells #[.bool false,.slice none 0 0] 38)=eB at *
  have gG:=hid hn
  have az:Hid (p0≠p2):=aH.symm
  have aA:Hid (p2≠p0):=aH
  have af:Hid (p1≠p2):=ae.symm
  have ag:Hid (p2≠p1):=ae
  have ah:Hid (p4≠p2):=ak.symm
  have aL:Hid (p3≠p2):=cK.symm
  clear hn hal aI eY bH bF bK aH ae ak cK
  refine q02 (l':=#[true,true,true,true,true,true,true,true,true,true,true,true,true,true,false,false,false]) (by kernel_rfl) ?_
  revert bg
  revert aA
  revert ax
  revert av
  revert aL
  revert ah
  revert af
  revert az
  revert aK
  revert ag
  revert aa
  revert au
  revert gU
  revert gG
  revert iK
  revert iC
  revert oJ
  revert bI
  revert o3
  revert p3
  revert p2
  revert o4
  revert p4
  revert p1
  revert p0
  revert eB
  exact kY.out
  refine Later.mk ?_
  intro bE p0 p1 p4 o4 p2 aI eY bH bF bP au aa ag az af ah av ax aA
  refine q03 (i:=13) (by kernel_rfl) rfl ?_
  intro K hK
  go_simp
  go_wp2_with (go_at_call 51;refine Calls.mono (P:=Tryz.prog) (q0J w bE aI bx xa xb iA hbx oU.out) ?_;intro e eB hx;obtain⟨p3,o3,rfl,hg,h72,fH⟩:=hx)
  refine hK.out _ _ (Or.inr (G.trans aI hg)) ?_
  clear hK K
  have bI:=G.trans aI hg
  have gU:=hid h72
  have aH:p3≠p0:=by have h1:=eY.out.1;have h2:=eY.out.2.1;omega
  have ae:p3≠p1:=by have h1:=bH.out.1;have h2:=bH.out.2.1;omega
  have ay:p3≠p2:=by have h1:=bP.out.1;have h2:=bP.out.2.1;omega
  have oJ:=hid (eY.out.G hg)
  have iC:=hid (bH.out.G hg)
  have iK:=hid (bF.out.G hg)
  have gG:=hid (bP.out.G hg)
  have bg:Hid (p3≠p0):=aH
  have aK:Hid (p3≠p1):=ae
  have aL:Hid (p3≠p2):=ay
  clear hg h72 fH aI eY bH bF bP aH ae ay
  refine q02 (l':=#[true,true,true,true,true,true,true,true,true,true,true,true,true,true,false,false,false]) (by kernel_rfl) ?_
  revert bg
  revert aA
  revert ax
  revert av
  revert aL
  revert ah
  revert af
  revert az
  revert aK
  revert ag
  revert aa
  revert au
  revert gU
  revert gG
  revert iK
  revert iC
  revert oJ
  revert bI
  revert o3
  revert p3
  revert p2
  revert o4
  revert p4
  revert p1
  revert p0
  revert eB
  exact kY.out
  refine Later.mk ?_
  intro eB p0 p1 p4 o4 p2 p3 o3 bI oJ iC iK gG gU au aa ag aK az af ah aL av ax aA bg
  refine q03 (i:=14) (by kernel_rfl) rfl ?_
  intro K hK
  go_simp
  have eT:Hid _:=q1o eB p2 0 b2 0 p3 o3 0 ya xb KB (by omega) lU.out lW.out gG.out.2.1 (G.lt bI hby) (gU.out.is bI).1 gG.out.2.2 (IntIs.G sS.out hby bI) (gU.out.is bI).2
  go_wp2_with (go_at_call 50;refine Calls.mono (P:=Tryz.prog) eT.out ?_;intro e gV hx;obtain⟨rfl,l5,hl,-,hkp⟩:=SetTo.step bI gG.out hx)
  have jl:=hid hl
  have jZ:=hid (hkp _ _ az.out oJ.out)
  have jm:=hid (hkp _ _ af.out iC.out)
  have nJ:=hid (DI.keep iK.out (hkp _ _ ah.out))
  have nK:=hid (DI.keep gU.out (hkp _ _ aL.out))
  refine hK.out _ _ (Or.inr l5) ?_
  clear hK K hx hl hkp eT bI oJ iC iK gG gU
  refine q02 (l':=#[true,true,true,true,true,true,true,true,true,true,true,true,true,true,true,false,false]) (by kernel_rfl) ?_
  revert bg
  revert aA
  revert ax
  revert av
  revert aL
  revert ah
  revert af
  revert az
  revert aK
  revert ag
  revert aa
  revert au
  revert nK
  revert jl
  revert nJ
  revert jm
  revert jZ
  revert l5
  revert o3
  revert p3
  revert p2
  revert o4
  revert p4
  revert p1
  revert p0
  revert gV
  exact mq.out
  refine Later.mk ?_
  intro gV p0 p1 p4 o4 p2 p3 o3 l5 jZ jm nJ jl nK au aa ag aK az af ah aL av ax aA bg
  refine q03 (i:=15) (by kernel_rfl) rfl ?_
  intro K hK
  go_simp
  have eT:Hid _:=q7h gV p0 0 p1 0 p2 0 0 (xa*(yb:Int)) (ya*(xb:Int)) (2*KB) (by omega) oO.out dE.out jZ.out.2.1 jm.out.2.1 jl.out.2.1 jZ.out.2.2 jm.out.2.2 jl.out.2.2
  go_wp2_with (go_at_call 55;refine Calls.mono (P:=Tryz.prog) eT.out ?_;intro e mr hx;obtain⟨rfl,xL,hl,-,hkp⟩:=SetTo.step l5 jZ.out hx)
  have xM:=hid hl
  have BO:=hid (hkp _ _ av.out jm.out)
  have BP:=hid (DI.keep nJ.out (hkp _ _ ax.out))
  have BQ:=hid (hkp _ _ aA.out jl.out)
  have BR:=hid (DI.keep nK.out (hkp _ _ bg.out))
  refine hK.out _ _ (Or.inl (by decide)) ?_
  clear hK K hx hl hkp eT l5 jZ jm nJ jl nK
  refine q03 (i:=16) (by kernel_rfl) rfl ?_
  intro K hK
  go_simp
  refine hK.out _ _ (Or.inl (by decide)) ?_
  clear hK K
  refine q0l (by kernel_rfl) ?_ _
  revert bg
  revert aA
  revert ax
  revert av
  revert aL
  revert ah
  revert af
  revert az
  revert aK
  revert ag
  revert aa
  revert au
  revert BR
  revert BQ
  revert BP
  revert BO
  revert xM
  revert xL
  revert o3
  revert p3
  revert p2
  revert o4
  revert p4
  revert p1
  revert p0
  revert mr
  exact LX.out
 ·skip
  refine Later.mk ?_
  intro mr p0 p1 p4 o4 p2 p3 o3 xL xM BO BP BQ BR au aa ag aK az af ah aL av ax aA bg
  clear au aa ag aK az af ah aL av ax aA bg
  have HS:=xM.out
  have hG:=xL
  clear xM BO BQ BP BR xL
  have Cf:Hid (NI w mr p0 (xa*(yb:Int)+ya*(xb:Int))):=HS
  clear HS
  go_wp2_with fail
  have hn0:=NI.new hG 38
  have hal:=(G.refl mr).alloc (.cells #[.bool false,.slice none 0 0] 38)
  have hG1:=G.trans hG hal
  have hs1:=Cf.out.G hal
  have hne:p0≠mr.heap.size:=by have:=Cf.out.2.1;omega
  generalize mr.heap.size=pd at *
  generalize mr.alloc (.cells #[.bool false,.slice none 0 0] 38)=v1 at *
  have jD:Hid (NI w v1 pd 0):=hn0
  have rM:Hid (NI w v1 p0 (xa*(yb:Int)+ya*(xb:Int))):=hs1
  clear hn0 hal hs1 hG Cf
  refine Calls.mono (P:=Tryz.prog) (q0J w v1 hG1 bx xa xb iA hbx oU.out) ?_
  rintro e v2 ⟨pe,oe,rfl,hg2,k2,-⟩
  have HE2:Hid (DI w v2 pe oe xb):=k2
  clear k2
  have hG2:=G.trans hG1 hg2
  have pY:Hid (NI w v2 pd 0):=jD.out.G hg2
  have HS2:Hid (NI w v2 p0 (xa*(yb:Int)+ya*(xb:Int))):=rM.out.G hg2
  clear hG1 hg2 jD rM
  go_wp2_with fail
  refine Calls.mono (P:=Tryz.prog) (q0J w v2 hG2 b2 ya yb dZ hby lq.out) ?_
  rintro e v3 ⟨pf,of,rfl,hg3,k3,-⟩
  have Af:Hid (DI w v3 pf of yb):=k3
  have hG3:=G.trans hG2 hg3
  have I1:Hid (NI w v3 pd 0):=pY.out.G hg3
  have sK:Hid (NI w v3 p0 (xa*(yb:Int)+ya*(xb:Int))):=HS2.out.G hg3
  have P7:Hid (DI w v3 pe oe xb):=HE2.out.G hg3
  clear hG2 hg3 pY HS2 HE2 k3
  have HM:Hid _:=q1o v3 pd 0 pe oe pf of 0 xb yb KB (by omega) lW.out jv.out I1.out.2.1 (P7.out.is hG3).1 (Af.out.is hG3).1 I1.out.2.2 (P7.out.is hG3).2 (Af.out.is hG3).2
  go_wp2_with fail
  refine Calls.mono (P:=Tryz.prog) HM.out ?_
  intro e v4 hs
  obtain⟨rfl,hG4,nW,-,hkp⟩:=SetTo.step hG3 I1.out hs
  have EI:Hid (NI w v4 p0 (xa*(yb:Int)+ya*(xb:Int))):=hkp p0 _ hne sK.out
  rw[show (xb:Int)*yb=((xb*yb:Nat):Int) from by push_cast;rfl] at nW
  have M6:Hid (NI w v4 pd ((xb*yb:Nat):Int)):=nW
  clear hs hkp nW HM I1 sK hG3 hne
  have HF:Hid _:=q0Y v4 bz p0 0 pd 0 s1 s2 (xa*(yb:Int)+ya*(xb:Int)) (xb*yb) (2*KB+1) (by omega) U6.out HD2.out HD0.out (G.lt hG4 hbz) EI.out.2.1 M6.out.2.1 (G8.out.G hbz hG4) EI.out.2.2 M6.out.2.2
  go_wp2_with fail
  refine Calls.mono (P:=Tryz.prog) HF.out ?_
  intro e v5 hs
  obtain⟨rfl,k1,k2⟩:=NormTo.after hG4 hs
  have jB:Hid _:=k2
  clear hs k2 HF EI M6
  go_wp2_with fail
  go_ret
  exact⟨rfl,k1,jB.out⟩
set_option maxHeartbeats 4000000 in
theorem qc7 (w:World) (bz bx b2:Nat) (s1 s2 xa ya:Int) (xb yb:Nat) (KB:Nat) (hK:KB≤100000) (hx2:xa.natAbs<2^(32*KB)) (hy2:ya.natAbs<2^(32*KB)) (gT:xb<2^(32*KB)) (iy:yb<2^(32*KB)) (hxb:0<xb) (hyb:0<yb)
  (hbz:bz<w.heap.size) (hbx:bx<w.heap.size) (hby:b2<w.heap.size) (hz:RatIs w bz s1 s2) (hx:RatV w bx xa xb) (hy:RatV w b2 ya yb):
  Calls Tryz.prog 14 #[.pointer (some ⟨bz,0,none⟩),.pointer (some ⟨bx,0,none⟩),.pointer (some ⟨b2,0,none⟩)] w (NormTo w bz (Int.tdiv (xa*ya) (Nat.gcd (xa*ya).natAbs (xb*yb):Nat)) (xb*yb/Nat.gcd (xa*ya).natAbs (xb*yb))):=by
 have jr:Hid (xa.natAbs<2^(32*KB)):=hx2
 have lU:Hid (ya.natAbs<2^(32*KB)):=hy2
 have lW:Hid ((xb:Int).natAbs<2^(32*KB)):=by show (xb:Int).natAbs<2^(32*KB);rw[Int.natAbs_natCast];exact gT
 have jv:Hid ((yb:Int).natAbs<2^(32*KB)):=by show (yb:Int).natAbs<2^(32*KB);rw[Int.natAbs_natCast];exact iy
 have HX0:Hid (IntIs w bx 0 xa):=hx.num
 have sS:Hid (IntIs w b2 0 ya):=hy.num
 have oU:Hid (RatV w bx xa xb):=hx
 have lq:Hid (RatV w b2 ya yb):=hy
 have G8:Hid (RatIs w bz s1 s2):=hz
 have iA:0<xb:=hxb
 have dZ:0<yb:=hyb
 have dE:Hid ((xa*ya).natAbs<2^(32*(2*KB))):=by
  show (xa*ya).natAbs<2^(32*(2*KB))
  rw[Int.natAbs_mul,show 32*(2*KB)=32*KB+32*KB from by omega,Nat.pow_add]
  exact Nat.mul_lt_mul'' hx2 hy2
 have HD2:Hid (xb*yb<2^(32*(2*KB))):=by
  show xb*yb<2^(32*(2*KB))
  rw[show 32*(2*KB)=32*KB+32*KB from by omega,Nat.pow_add]
  exact Nat.mul_lt_mul'' gT iy
 have HD0:Hid (0<xb*yb):=Nat.mul_pos hxb hyb
 have rW:Hid ((xb:Int)*yb=((xb*yb:Nat):Int)):=by show (xb:Int)*yb=((xb*yb:Nat):Int);push_cast;rfl
 clear hx hy hz hx2 hy2 gT iy hxb hyb
 go_enter Tryz.func14,Tryz.ntmps14
 go_wp2_with fail
 refine q0K 15 (G w) (by kernel_rfl) (by first|exact(G.refl _).drew|exact G.drew (by assumption)) ?_
 intro bS
 refine q00 0 (v:= ?_) rfl (by kernel_rfl) (fun _ _ _ h=>h) rfl ?_ ‹_› ?_
 rotate_left
 ·intro wq hwq
  first|(go_simp;done)|(go_simp;with_reducible rfl)
 try simp only[aput,List.set]
 refine q00 2 (v:= ?_) rfl (by kernel_rfl) (fun _ _ _ h=>h) rfl ?_ ‹_› ?_
 rotate_left
 ·intro wq hwq
  first|(go_simp;done)|(go_simp;with_reducible rfl)
 try simp only[aput,List.set]
 refine q00 3 (v:= ?_) rfl (by kernel_rfl) (fun _ _ _ h=>h) rfl ?_ ‹_› ?_
 rotate_left
 ·intro wq hwq
  first|(go_simp;done)|(go_simp;with_reducible rfl)
 try simp only[aput,List.set]
 refine q00 4 (v:= ?_) rfl (by kernel_rfl) (fun _ _ _ h=>h) rfl ?_ ‹_› ?_
 rotate_left
 ·intro wq hwq
  first|(go_simp;done)|(go_simp;with_reducible rfl)
 try simp only[aput,List.set]
 refine q00 5 (v:= ?_) rfl (by kernel_rfl) (fun _ _ _ h=>h) rfl ?_ ‹_› ?_
 rotate_left
 ·intro wq hwq
  first|(go_simp;done)|(go_simp;with_reducible rfl)
 try simp only[aput,List.set]
 refine q00 6 (v:= ?_) rfl (by kernel_rfl) (fun _ _ _ h=>h) rfl ?_ ‹_› ?_
 rotate_left
 ·intro wq hwq
  first|(go_simp;done)|(go_simp;with_reducible rfl)
 try simp only[aput,List.set]
 refine q00 7 (v:= ?_) rfl (by kernel_rfl) (fun _ _ _ h=>h) rfl ?_ ‹_› ?_
 rotate_left
 ·intro wq hwq
  first|(go_simp;done)|(go_simp;with_reducible rfl)
 try simp only[aput,List.set]
 refine q00 10 (v:= ?_) rfl (by kernel_rfl) (fun _ _ _ h=>h) rfl ?_ ‹_› ?_
 rotate_left
 ·intro wq hwq
  first|(go_simp;done)|(go_simp;with_reducible rfl)
 try simp only[aput,List.set]
 refine q00 12 (v:= ?_) rfl (by kernel_rfl) (fun _ _ _ h=>h) rfl ?_ ‹_› ?_
 rotate_left
 ·intro wq hwq
  first|(go_simp;done)|(go_simp;with_reducible rfl)
 try simp only[aput,List.set]
 show q0E _ _ _ _ _ _ _ _ _ w.drew
 have hS5:=bS
 generalize w.drew=w5 at *
 clear bS
 apply share
 intro dA
 apply share
 intro eQ
 apply share
 intro yU
 apply share
 intro kZ
 refine q0c (i:=1) (j:=9) (by kernel_rfl) rfl rfl ?_ ?_
 ·skip
  intro K hK
  go_simp
  refine hK.out _ _ (Or.inr (hS5.alloc _)) ?_
  clear hK K
  have hn:=NI.new hS5 38
  have hal:=(G.refl w5).alloc (.cells #[.bool false,.slice none 0 0] 38)
  have aP:=G.trans hS5 hal
  generalize w5.heap.size=pn at *
  generalize w5.alloc (.cells #[.bool false,.slice none 0 0] 38)=w6 at *
  have rY:=hid hn
  clear hn hal
  refine q0c (i:=8) (j:=9) (by kernel_rfl) rfl rfl ?_ ?_
  ·skip
   intro K hK
   go_simp
   have eT:Hid _:=q1o w6 pn 0 bx 0 b2 0 0 xa ya KB (by omega) jr.out lU.out rY.out.2.1 (G.lt aP hbx) (G.lt aP hby) rY.out.2.2 (IntIs.G HX0.out hbx aP) (IntIs.G sS.out hby aP)
   go_wp2_with (go_at_call 50;refine Calls.mono (P:=Tryz.prog) eT.out ?_;intro e w7 hx;obtain⟨rfl,aD,hl,-,hkp⟩:=SetTo.step aP rY.out hx)
   have dW:=hid hl
   refine hK.out _ _ (Or.inr aD) ?_
   clear hK K hx hl hkp eT aP rY
   refine q0c (i:=9) (j:=11) (by kernel_rfl) rfl rfl ?_ ?_
   ·skip
    intro K hK
    go_simp
    refine hK.out _ _ (Or.inr (aD.alloc _)) ?_
    clear hK K
    have hn:=NI.new aD 38
    have hal:=(G.refl w7).alloc (.cells #[.bool false,.slice none 0 0] 38)
    have aJ:=G.trans aD hal
    have iL:=hid (dW.out.G hal)
    have aM:w7.heap.size≠pn:=by have:=dW.out.2.1;omega
    generalize w7.heap.size=pd at *
    generalize w7.alloc (.cells #[.bool false,.slice none 0 0] 38)=w8 at *
    have mi:=hid hn
    have aB:Hid (pn≠pd):=aM.symm
    have aC:Hid (pd≠pn):=aM
    clear hn hal aD dW aM
    refine q02 (l':=#[true,true,true,true,true,true,true,true,true,true,true,false,true,false,false,false,false]) (by kernel_rfl) ?_
    revert aB
    revert aC
    revert mi
    revert iL
    revert aJ
    revert pd
    revert pn
    revert w8
    exact yU.out
   ·skip
    intro K hK
    go_simp
    go_wp2_with (go_at_call 51;refine Calls.mono (P:=Tryz.prog) (q0J w w7 aD bx xa xb iA hbx oU.out) ?_;intro e w8 hx;obtain⟨p3,o3,rfl,hg,h72,fH⟩:=hx)
    refine hK.out _ _ (Or.inr (G.trans aD hg)) ?_
    clear hK K
    have aJ:=G.trans aD hg
    have bJ:=hid h72
    have aM:p3≠pn:=by have h1:=dW.out.1;have h2:=dW.out.2.1;omega
    have iL:=hid (dW.out.G hg)
    have gH:Hid (p3≠pn):=aM
    clear hg h72 fH aD dW aM
    refine q0c (i:=9) (j:=13) (by kernel_rfl) rfl rfl ?_ ?_
    ·skip
     intro K hK
     go_simp
     refine hK.out _ _ (Or.inr (aJ.alloc _)) ?_
     clear hK K
     have hn:=NI.new aJ 38
     have hal:=(G.refl w8).alloc (.cells #[.bool false,.slice none 0 0] 38)
     have aZ:=G.trans aJ hal
     have l6:=hid (iL.out.G hal)
     have bQ:=hid (bJ.out.G hal)
     have aM:w8.heap.size≠pn:=by have:=iL.out.2.1;omega
     have ak:w8.heap.size≠p3:=by have:=(bJ.out.is aJ).1;omega
     generalize w8.heap.size=pd at *
     generalize w8.alloc (.cells #[.bool false,.slice none 0 0] 38)=w9 at *
     have nE:=hid hn
     have aB:Hid (pn≠pd):=aM.symm
     have aC:Hid (pd≠pn):=aM
     have ed:Hid (p3≠pd):=ak.symm
     clear hn hal aJ iL bJ aM ak
     refine q02 (l':=#[true,true,true,true,true,true,true,true,true,true,true,true,true,false,false,false,false]) (by kernel_rfl) ?_
     revert ed
     revert aB
     revert gH
     revert aC
     revert bQ
     revert nE
     revert l6
     revert aZ
     revert o3
     revert p3
     revert pd
     revert pn
     revert w9
     exact eQ.out
    ·skip
     intro K hK
     go_simp
     go_wp2_with (go_at_call 51;refine Calls.mono (P:=Tryz.prog) (q0J w w8 aJ b2 ya yb dZ hby lq.out) ?_;intro e w9 hx;obtain⟨p4,o4,rfl,hg,h72,fH⟩:=hx)
     refine hK.out _ _ (Or.inr (G.trans aJ hg)) ?_
     clear hK K
     have aZ:=G.trans aJ hg
     have qZ:=hid h72
     have aM:p4≠pn:=by have h1:=iL.out.1;have h2:=iL.out.2.1;omega
     have l6:=hid (iL.out.G hg)
     have bQ:=hid (bJ.out.G hg)
     have jX:Hid (p4≠pn):=aM
     clear hg h72 fH aJ iL bJ aM
     refine q03 (i:=9) (by kernel_rfl) rfl ?_
     intro K hK
     go_simp
     refine hK.out _ _ (Or.inr (aZ.alloc _)) ?_
     clear hK K
     have hn:=NI.new aZ 38
     have hal:=(G.refl w9).alloc (.cells #[.bool false,.slice none 0 0] 38)
     have aI:=G.trans aZ hal
     have jI:=hid (l6.out.G hal)
     have bF:=hid (bQ.out.G hal)
     have bK:=hid (qZ.out.G hal)
     have aM:w9.heap.size≠pn:=by have:=l6.out.2.1;omega
     have ak:w9.heap.size≠p3:=by have:=(bQ.out.is aZ).1;omega
     have cK:w9.heap.size≠p4:=by have:=(qZ.out.is aZ).1;omega
     generalize w9.heap.size=pd at *
     generalize w9.alloc (.cells #[.bool false,.slice none 0 0] 38)=bE at *
     have fe:=hid hn
     have aB:Hid (pn≠pd):=aM.symm
     have aC:Hid (pd≠pn):=aM
     have ed:Hid (p3≠pd):=ak.symm
     have jw:Hid (p4≠pd):=cK.symm
     clear hn hal aZ l6 bQ qZ aM ak cK
     refine q02 (l':=#[true,true,true,true,true,true,true,true,true,true,true,true,true,true,false,false,false]) (by kernel_rfl) ?_
     revert jw
     revert ed
     revert aB
     revert jX
     revert gH
     revert aC
     revert bK
     revert bF
     revert fe
     revert jI
     revert aI
     revert o4
     revert p4
     revert o3
     revert p3
     revert pd
     revert pn
     revert bE
     exact dA.out
  ·skip
   intro K hK
   go_simp
   refine hK.out _ _ (Or.inr (aP.alloc _)) ?_
   clear hK K
   have hn:=NI.new aP 38
   have hal:=(G.refl w6).alloc (.cells #[.bool false,.slice none 0 0] 38)
   have aD:=G.trans aP hal
   have dW:=hid (rY.out.G hal)
   have aM:w6.heap.size≠pn:=by have:=rY.out.2.1;omega
   generalize w6.heap.size=pd at *
   generalize w6.alloc (.cells #[.bool false,.slice none 0 0] 38)=w7 at *
   have kP:=hid hn
   have aB:Hid (pn≠pd):=aM.symm
   have aC:Hid (pd≠pn):=aM
   clear hn hal aP rY aM
   refine q02 (l':=#[true,true,true,true,true,true,true,true,false,true,true,false,true,false,false,false,false]) (by kernel_rfl) ?_
   revert aB
   revert aC
   revert kP
   revert dW
   revert aD
   revert pd
   revert pn
   revert w7
   exact kZ.out
 ·skip
  intro K hK
  go_simp
  refine hK.out _ _ (Or.inr (hS5.alloc _)) ?_
  clear hK K
  have hn:=NI.new hS5 38
  have hal:=(G.refl w5).alloc (.cells #[.bool false,.slice none 0 0] 38)
  have aP:=G.trans hS5 hal
  generalize w5.heap.size=pd at *
  generalize w5.alloc (.cells #[.bool false,.slice none 0 0] 38)=w6 at *
  have vL:=hid hn
  clear hn hal
  refine q03 (i:=1) (by kernel_rfl) rfl ?_
  intro K hK
  go_simp
  refine hK.out _ _ (Or.inr (aP.alloc _)) ?_
  clear hK K
  have hn:=NI.new aP 38
  have hal:=(G.refl w6).alloc (.cells #[.bool false,.slice none 0 0] 38)
  have aD:=G.trans aP hal
  have kP:=hid (vL.out.G hal)
  have dO:w6.heap.size≠pd:=by have:=vL.out.2.1;omega
  generalize w6.heap.size=pn at *
  generalize w6.alloc (.cells #[.bool false,.slice none 0 0] 38)=w7 at *
  have dW:=hid hn
  have aC:Hid (pd≠pn):=dO.symm
  have aB:Hid (pn≠pd):=dO
  clear hn hal aP vL dO
  refine q02 (l':=#[true,true,true,true,true,true,true,true,false,true,true,false,true,false,false,false,false]) (by kernel_rfl) ?_
  revert aB
  revert aC
  revert kP
  revert dW
  revert aD
  revert pd
  revert pn
  revert w7
  exact kZ.out
 refine Later.mk ?_
 intro w7 pn pd aD dW kP aC aB
 refine q03 (i:=8) (by kernel_rfl) rfl ?_
 intro K hK
 go_simp
 have eT:Hid _:=q1o w7 pn 0 bx 0 b2 0 0 xa ya KB (by omega) jr.out lU.out dW.out.2.1 (G.lt aD hbx) (G.lt aD hby) dW.out.2.2 (IntIs.G HX0.out hbx aD) (IntIs.G sS.out hby aD)
 go_wp2_with (go_at_call 50;refine Calls.mono (P:=Tryz.prog) eT.out ?_;intro e w8 hx;obtain⟨rfl,aJ,hl,-,hkp⟩:=SetTo.step aD dW.out hx)
 have iL:=hid hl
 have mi:=hid (hkp _ _ aC.out kP.out)
 refine hK.out _ _ (Or.inr aJ) ?_
 clear hK K hx hl hkp eT aD dW kP
 refine q02 (l':=#[true,true,true,true,true,true,true,true,true,true,true,false,true,false,false,false,false]) (by kernel_rfl) ?_
 revert aB
 revert aC
 revert mi
 revert iL
 revert aJ
 revert pd
 revert pn
 revert w8
 exact yU.out
 refine Later.mk ?_
 intro w8 pn pd aJ iL mi aC aB
 refine q03 (i:=11) (by kernel_rfl) rfl ?_
 intro K hK
 go_simp
 go_wp2_with (go_at_call 51;refine Calls.mono (P:=Tryz.prog) (q0J w w8 aJ bx xa xb iA hbx oU.out) ?_;intro e w9 hx;obtain⟨p3,o3,rfl,hg,h72,fH⟩:=hx)
 refine hK.out _ _ (Or.inr (G.trans aJ hg)) ?_
 clear hK K
 have aZ:=G.trans aJ hg
 have bQ:=hid h72
 have aM:p3≠pn:=by have h1:=iL.out.1;have h2:=iL.out.2.1;omega
 have dO:p3≠pd:=by have h1:=mi.out.1;have h2:=mi.out.2.1;omega
 have l6:=hid (iL.out.G hg)
 have nE:=hid (mi.out.G hg)
 have gH:Hid (p3≠pn):=aM
 have ed:Hid (p3≠pd):=dO
 clear hg h72 fH aJ iL mi aM dO
 refine q02 (l':=#[true,true,true,true,true,true,true,true,true,true,true,true,true,false,false,false,false]) (by kernel_rfl) ?_
 revert ed
 revert aB
 revert gH
 revert aC
 revert bQ
 revert nE
 revert l6
 revert aZ
 revert o3
 revert p3
 revert pd
 revert pn
 revert w9
 exact eQ.out
 refine Later.mk ?_
 intro w9 pn pd p3 o3 aZ l6 nE bQ aC gH aB ed
 refine q03 (i:=13) (by kernel_rfl) rfl ?_
 intro K hK
 go_simp
 go_wp2_with (go_at_call 51;refine Calls.mono (P:=Tryz.prog) (q0J w w9 aZ b2 ya yb dZ hby lq.out) ?_;intro e bE hx;obtain⟨p4,o4,rfl,hg,h72,fH⟩:=hx)
 refine hK.out _ _ (Or.inr (G.trans aZ hg)) ?_
 clear hK K
 have aI:=G.trans aZ hg
 have bK:=hid h72
 have aM:p4≠pn:=by have h1:=l6.out.1;have h2:=l6.out.2.1;omega
 have dO:p4≠pd:=by have h1:=nE.out.1;have h2:=nE.out.2.1;omega
 have jI:=hid (l6.out.G hg)
 have fe:=hid (nE.out.G hg)
 have bF:=hid (bQ.out.G hg)
 have jX:Hid (p4≠pn):=aM
 have jw:Hid (p4≠pd):=dO
 clear hg h72 fH aZ l6 nE bQ aM dO
 refine q02 (l':=#[true,true,true,true,true,true,true,true,true,true,true,true,true,true,false,false,false]) (by kernel_rfl) ?_
 revert jw
 revert ed
 revert aB
 revert jX
 revert gH
 revert aC
 revert bK
 revert bF
 revert fe
 revert jI
 revert aI
 revert o4
 revert p4
 revert o3
 revert p3
 revert pd
 revert pn
 revert bE
 exact dA.out
 refine Later.mk ?_
 intro bE pn pd p3 o3 p4 o4 aI jI fe bF bK aC gH jX aB ed jw
 refine q03 (i:=14) (by kernel_rfl) rfl ?_
 intro K hK
 go_simp
 have eT:Hid _:=rW.out▸q1o bE pd 0 p3 o3 p4 o4 0 xb yb KB (by omega) lW.out jv.out fe.out.2.1 (bF.out.is aI).1 (bK.out.is aI).1 fe.out.2.2 (bF.out.is aI).2 (bK.out.is aI).2
 go_wp2_with (go_at_call 50;refine Calls.mono (P:=Tryz.prog) eT.out ?_;intro e eB hx;obtain⟨rfl,bI,hl,-,hkp⟩:=SetTo.step aI fe.out hx)
 have jR:=hid hl
 have vM:=hid (hkp _ _ aB.out jI.out)
 have iK:=hid (DI.keep bF.out (hkp _ _ ed.out))
 have gU:=hid (DI.keep bK.out (hkp _ _ jw.out))
 refine hK.out _ _ (Or.inr bI) ?_
 clear hK K hx hl hkp eT aI jI fe bF bK
 refine q03 (i:=15) (by kernel_rfl) rfl ?_
 intro K hK
 go_simp
 have yc:Hid _:=q0Y eB bz pn 0 pd 0 s1 s2 (xa*ya) (xb*yb) (2*KB) (by omega) dE.out HD2.out HD0.out (G.lt bI hbz) vM.out.2.1 jR.out.2.1 (G8.out.G hbz bI) vM.out.2.2 jR.out.2.2
 go_wp2_with (go_at_call 49;refine Calls.mono (P:=Tryz.prog) yc.out ?_;intro e gV hx;obtain⟨rfl,k1,k2⟩:=NormTo.after bI hx)
 have jB:Hid _:=k2
 refine hK.out _ _ (Or.inl (by decide)) ?_
 clear hx k2 hK K yc
 refine q03 (i:=16) (by kernel_rfl) rfl ?_
 intro K hK
 go_simp
 refine hK.out _ _ (Or.inl (by decide)) ?_
 clear hK K
 refine q0l (by kernel_rfl) ?_ _
 go_wp2_with fail
 go_ret
 exact⟨rfl,k1,jB.out⟩
set_option maxRecDepth 10000 in
set_option maxHeartbeats 8000000 in
theorem qb6 (w:World) (bx b2:Nat) (xa ya:Int) (xb yb:Nat) (KB:Nat) (hK:KB≤100000) (hx2:xa.natAbs<2^(32*KB)) (hy2:ya.natAbs<2^(32*KB)) (gT:xb<2^(32*KB)) (iy:yb<2^(32*KB)) (hxb:0<xb) (hyb:0<yb)
  (hbx:bx<w.heap.size) (hby:b2<w.heap.size) (hx:RatV w bx xa xb) (hy:RatV w b2 ya yb):
  Calls Tryz.prog 65 #[.pointer (some ⟨bx,0,none⟩),.pointer (some ⟨b2,0,none⟩)] w fun e w'=>e= .returned (.int .i64 (cmpI (xa*(yb:Int)) (ya*(xb:Int))))∧G w w':=by
 have jr:Hid (xa.natAbs<2^(32*KB)):=hx2
 have lU:Hid (ya.natAbs<2^(32*KB)):=hy2
 have lW:Hid ((xb:Int).natAbs<2^(32*KB)):=by show (xb:Int).natAbs<2^(32*KB);rw[Int.natAbs_natCast];exact gT
 have jv:Hid ((yb:Int).natAbs<2^(32*KB)):=by show (yb:Int).natAbs<2^(32*KB);rw[Int.natAbs_natCast];exact iy
 have HX0:Hid (IntIs w bx 0 xa):=hx.num
 have sS:Hid (IntIs w b2 0 ya):=hy.num
 have oU:Hid (RatV w bx xa xb):=hx
 have lq:Hid (RatV w b2 ya yb):=hy
 have iA:0<xb:=hxb
 have dZ:0<yb:=hyb
 have xK:32*(2*KB)=32*KB+32*KB:=by omega
 have oO:Hid ((xa*(yb:Int)).natAbs<2^(32*(2*KB))):=by
  show (xa*(yb:Int)).natAbs<2^(32*(2*KB))
  rw[Int.natAbs_mul,Int.natAbs_natCast,xK,Nat.pow_add]
  exact Nat.mul_lt_mul'' hx2 iy
 have dE:Hid ((ya*(xb:Int)).natAbs<2^(32*(2*KB))):=by
  show (ya*(xb:Int)).natAbs<2^(32*(2*KB))
  rw[Int.natAbs_mul,Int.natAbs_natCast,xK,Nat.pow_add]
  exact Nat.mul_lt_mul'' hy2 gT
 have I7:Hid (∀ w1 px ox py oy,px<w1.heap.size→py<w1.heap.size→IntIs w1 px ox (xb:Int)→IntIs w1 py oy (yb:Int)→_):=fun w1 px ox py oy h1 h2 h3 h4=>q4L w1 px ox py oy (xb:Int) (yb:Int) KB (by omega) lW.out jv.out h1 h2 h3 h4
 by_cases he:xb=yb
 ·subst he
  have h1:cmpI (xb:Int) (xb:Int)=0:=by unfold cmpI;rw[if_neg (by omega),if_pos rfl]
  rw[h1] at I7
  rw[q93 hxb]
  have U7:Hid (∀ w1,G w w1→_):=fun w1 g=>q4L w1 bx 0 b2 0 xa ya KB (by omega) jr.out lU.out (G.lt g hbx) (G.lt g hby) (IntIs.G HX0.out hbx g) (IntIs.G sS.out hby g)
  generalize cmpI xa ya=cv at *
  clear hx hy hx2 hy2 gT iy hxb hyb h1 oO dE xK
  go_enter Tryz.func65,Tryz.ntmps65
  go_wp2_with fail
  refine Calls.mono (P:=Tryz.prog) (q0J w w (G.refl w) bx xa xb iA hbx oU.out) ?_
  rintro e w1 ⟨px,ox,rfl,hg1,kx,-⟩
  have Gm:Hid (DI w w1 px ox xb):=kx
  clear kx
  go_wp2_with fail
  refine Calls.mono (P:=Tryz.prog) (q0J w w1 hg1 b2 ya xb dZ hby lq.out) ?_
  rintro e w2 ⟨py,oy,rfl,hg2,ky,-⟩
  have Co:Hid (DI w w2 py oy xb):=ky
  have rZ:Hid (DI w w2 px ox xb):=Gm.out.G hg2
  have hG2:=G.trans hg1 hg2
  clear ky Gm
  clear hg1 hg2
  go_wp2_with fail
  refine Calls.mono (P:=Tryz.prog) (I7.out w2 px ox py oy (rZ.out.is hG2).1 (Co.out.is hG2).1 (rZ.out.is hG2).2 (Co.out.is hG2).2) ?_
  rintro e w3 ⟨rfl,hg3⟩
  have hG3:=G.trans hG2 hg3
  clear hg3 hG2
  go_wp2_with fail
  refine q0K 6 (G w3) (by kernel_rfl) (by first|exact(G.refl _).drew|exact G.drew (by assumption)) ?_
  intro bS
  refine q00 0 (v:= ?_) rfl (by kernel_rfl) (fun _ _ _ h=>h) rfl ?_ ‹_› ?_
  rotate_left
  ·intro wq hwq
   first|(go_simp;done)|(go_simp;with_reducible rfl)
  try simp only[aput,List.set]
  refine q00 1 (v:= ?_) rfl (by kernel_rfl) (fun _ _ _ h=>h) rfl ?_ ‹_› ?_
  rotate_left
  ·intro wq hwq
   first|(go_simp;done)|(go_simp;with_reducible rfl)
  try simp only[aput,List.set]
  refine q00 2 (v:= ?_) rfl (by kernel_rfl) (fun _ _ _ h=>h) rfl ?_ ‹_› ?_
  rotate_left
  ·intro wq hwq
   first|(go_simp;done)|(go_simp;with_reducible rfl)
  try simp only[aput,List.set]
  refine q00 3 (v:= ?_) rfl (by kernel_rfl) (fun _ _ _ h=>h) rfl ?_ ‹_› ?_
  rotate_left
  ·intro wq hwq
   first|(go_simp;done)|(go_simp;with_reducible rfl)
  try simp only[aput,List.set]
  refine q00 4 (v:= ?_) rfl (by kernel_rfl) (fun _ _ _ h=>h) rfl ?_ ‹_› ?_
  rotate_left
  ·intro wq hwq
   first|(go_simp;done)|(go_simp;with_reducible rfl)
  try simp only[aput,List.set]
  refine q00 5 (v:= ?_) rfl (by kernel_rfl) (fun _ _ _ h=>h) rfl ?_ ‹_› ?_
  rotate_left
  ·intro wq hwq
   first|(go_simp;done)|(go_simp;with_reducible rfl)
  try simp only[aput,List.set]
  show q0E _ _ _ _ _ _ _ _ _ w3.drew
  generalize w3.drew=U8 at *
  have Gn:=G.trans hG3 bS
  refine q03 (i:=6) (by kernel_rfl) rfl ?_
  intro K hK
  go_simp
  go_wp2_with (go_at_call 142;refine Calls.mono (P:=Tryz.prog) (U7.out U8 Gn) ?_;rintro e w4 ⟨rfl,hg4⟩)
  refine hK.out _ _ (Or.inl (by decide)) ?_
  have hG4:=G.trans Gn hg4
  clear hK K
  refine q03 (i:=7) (by kernel_rfl) rfl ?_
  intro K hK
  go_simp
  refine hK.out _ _ (Or.inl (by decide)) ?_
  clear hK K
  refine q0l (by kernel_rfl) ?_ _
  go_wp2_with fail
  go_ret
  exact⟨rfl,hG4⟩
 ·have h1:(cmpI (xb:Int) (yb:Int)==0)=false:=by
   unfold cmpI
   by_cases h:(xb:Int)<yb
   ·rw[if_pos h];rfl
   ·rw[if_neg h,if_neg (by omega)];rfl
  have HT1:Hid _:=h1
  generalize cmpI (xb:Int) (yb:Int)=cd at *
  clear hx hy hx2 hy2 gT iy hxb hyb h1 he xK
  have t1:=HT1.out
  go_enter Tryz.func65,Tryz.ntmps65
  go_wp2_with fail
  refine Calls.mono (P:=Tryz.prog) (q0J w w (G.refl w) bx xa xb iA hbx oU.out) ?_
  rintro e w1 ⟨px,ox,rfl,hg1,kx,-⟩
  have Gm:Hid (DI w w1 px ox xb):=kx
  clear kx
  go_wp2_with fail
  refine Calls.mono (P:=Tryz.prog) (q0J w w1 hg1 b2 ya yb dZ hby lq.out) ?_
  rintro e w2 ⟨py,oy,rfl,hg2,ky,-⟩
  have Co:Hid (DI w w2 py oy yb):=ky
  have rZ:Hid (DI w w2 px ox xb):=Gm.out.G hg2
  have hG2:=G.trans hg1 hg2
  clear ky Gm
  clear hg1 hg2
  go_wp2_with fail
  refine Calls.mono (P:=Tryz.prog) (I7.out w2 px ox py oy (rZ.out.is hG2).1 (Co.out.is hG2).1 (rZ.out.is hG2).2 (Co.out.is hG2).2) ?_
  rintro e w3 ⟨rfl,hg3⟩
  have hG3:=G.trans hG2 hg3
  clear hg3 hG2 I7 rZ Co
  have Pe:Hid (RatV w3 bx xa xb):=RatV.G oU.out hbx hG3
  have I8:Hid (RatV w3 b2 ya yb):=RatV.G lq.out hby hG3
  clear oU lq
  go_wp2_with fail
  clear t1 HT1
  apply share
  ·intro LX
   refine q0K 14 (G w3) (by kernel_rfl) (by first|exact(G.refl _).drew|exact G.drew (by assumption)) ?_
   intro bS
   refine q00 1 (v:= ?_) rfl (by kernel_rfl) (fun _ _ _ h=>h) rfl ?_ ‹_› ?_
   rotate_left
   ·intro wq hwq
    first|(go_simp;done)|(go_simp;with_reducible rfl)
   try simp only[aput,List.set]
   refine q00 2 (v:= ?_) rfl (by kernel_rfl) (fun _ _ _ h=>h) rfl ?_ ‹_› ?_
   rotate_left
   ·intro wq hwq
    first|(go_simp;done)|(go_simp;with_reducible rfl)
   try simp only[aput,List.set]
   refine q00 3 (v:= ?_) rfl (by kernel_rfl) (fun _ _ _ h=>h) rfl ?_ ‹_› ?_
   rotate_left
   ·intro wq hwq
    first|(go_simp;done)|(go_simp;with_reducible rfl)
   try simp only[aput,List.set]
   refine q00 4 (v:= ?_) rfl (by kernel_rfl) (fun _ _ _ h=>h) rfl ?_ ‹_› ?_
   rotate_left
   ·intro wq hwq
    first|(go_simp;done)|(go_simp;with_reducible rfl)
   try simp only[aput,List.set]
   refine q00 8 (v:= ?_) rfl (by kernel_rfl) (fun _ _ _ h=>h) rfl ?_ ‹_› ?_
   rotate_left
   ·intro wq hwq
    first|(go_simp;done)|(go_simp;with_reducible rfl)
   try simp only[aput,List.set]
   refine q00 9 (v:= ?_) rfl (by kernel_rfl) (fun _ _ _ h=>h) rfl ?_ ‹_› ?_
   rotate_left
   ·intro wq hwq
    first|(go_simp;done)|(go_simp;with_reducible rfl)
   try simp only[aput,List.set]
   refine q00 10 (v:= ?_) rfl (by kernel_rfl) (fun _ _ _ h=>h) rfl ?_ ‹_› ?_
   rotate_left
   ·intro wq hwq
    first|(go_simp;done)|(go_simp;with_reducible rfl)
   try simp only[aput,List.set]
   refine q00 11 (v:= ?_) rfl (by kernel_rfl) (fun _ _ _ h=>h) rfl ?_ ‹_› ?_
   rotate_left
   ·intro wq hwq
    first|(go_simp;done)|(go_simp;with_reducible rfl)
   try simp only[aput,List.set]
   show q0E _ _ _ _ _ _ _ _ _ w3.drew
   have hS5:=bS
   generalize w3.drew=w5 at *
   clear bS
   apply share
   intro dA
   apply share
   intro eQ
   apply share
   intro iB
   apply share
   intro kZ
   apply share
   intro oH
   apply share
   intro oI
   refine q0H (i:=0) (j:=5) (l:=7) (by kernel_rfl) rfl rfl rfl ?_ ?_ ?_
   ·skip
    intro K hK
    go_simp
    refine hK.out _ _ (Or.inr (hS5.alloc _)) ?_
    clear hK K
    have hn:=NI.new hS5 38
    have hal:=(G.refl w5).alloc (.cells #[.bool false,.slice none 0 0] 38)
    have aP:=G.trans hS5 hal
    generalize w5.heap.size=p1 at *
    generalize w5.alloc (.cells #[.bool false,.slice none 0 0] 38)=w6 at *
    have nS:=hid hn
    clear hn hal
    refine q0c (i:=5) (j:=7) (by kernel_rfl) rfl rfl ?_ ?_
    ·skip
     intro K hK
     go_simp
     go_wp2_with (go_at_call 51;refine Calls.mono (P:=Tryz.prog) (q0J w3 w6 aP b2 ya yb dZ (G.lt hG3 hby) I8.out) ?_;intro e w7 hx;obtain⟨p4,o4,rfl,hg,h72,fH⟩:=hx)
     refine hK.out _ _ (Or.inr (G.trans aP hg)) ?_
     clear hK K
     have aD:=G.trans aP hg
     have HD7:=hid h72
     have ae:p4≠p1:=by have h1:=nS.out.1;have h2:=nS.out.2.1;omega
     have dB:=hid (nS.out.G hg)
     have aa:Hid (p4≠p1):=ae
     clear hg h72 fH aP nS ae
     refine q02 (l':=#[true,true,true,true,true,true,false,false,true,true,true,true,false,false,false,false]) (by kernel_rfl) ?_
     revert aa
     revert HD7
     revert dB
     revert aD
     revert o4
     revert p4
     revert p1
     revert w7
     exact oH.out
    ·skip
     intro K hK
     go_simp
     refine hK.out _ _ (Or.inr (aP.alloc _)) ?_
     clear hK K
     have hn:=NI.new aP 38
     have hal:=(G.refl w6).alloc (.cells #[.bool false,.slice none 0 0] 38)
     have aD:=G.trans aP hal
     have dB:=hid (nS.out.G hal)
     have ae:w6.heap.size≠p1:=by have:=nS.out.2.1;omega
     generalize w6.heap.size=p2 at *
     generalize w6.alloc (.cells #[.bool false,.slice none 0 0] 38)=w7 at *
     have dJ:=hid hn
     have af:Hid (p1≠p2):=ae.symm
     have ag:Hid (p2≠p1):=ae
     clear hn hal aP nS ae
     refine q02 (l':=#[true,true,true,true,true,false,false,true,true,true,true,true,false,false,false,false]) (by kernel_rfl) ?_
     revert af
     revert ag
     revert dJ
     revert dB
     revert aD
     revert p2
     revert p1
     revert w7
     exact kZ.out
   ·skip
    intro K hK
    go_simp
    go_wp2_with (go_at_call 51;refine Calls.mono (P:=Tryz.prog) (q0J w3 w5 hS5 b2 ya yb dZ (G.lt hG3 hby) I8.out) ?_;intro e w6 hx;obtain⟨p4,o4,rfl,hg,h72,fH⟩:=hx)
    refine hK.out _ _ (Or.inr (G.trans hS5 hg)) ?_
    clear hK K
    have aP:=G.trans hS5 hg
    have HD6:=hid h72
    clear hg h72 fH
    refine q0c (i:=0) (j:=7) (by kernel_rfl) rfl rfl ?_ ?_
    ·skip
     intro K hK
     go_simp
     refine hK.out _ _ (Or.inr (aP.alloc _)) ?_
     clear hK K
     have hn:=NI.new aP 38
     have hal:=(G.refl w6).alloc (.cells #[.bool false,.slice none 0 0] 38)
     have aD:=G.trans aP hal
     have HD7:=hid (HD6.out.G hal)
     have ak:w6.heap.size≠p4:=by have:=(HD6.out.is aP).1;omega
     generalize w6.heap.size=p1 at *
     generalize w6.alloc (.cells #[.bool false,.slice none 0 0] 38)=w7 at *
     have dB:=hid hn
     have aa:Hid (p4≠p1):=ak.symm
     clear hn hal aP HD6 ak
     refine q02 (l':=#[true,true,true,true,true,true,false,false,true,true,true,true,false,false,false,false]) (by kernel_rfl) ?_
     revert aa
     revert HD7
     revert dB
     revert aD
     revert o4
     revert p4
     revert p1
     revert w7
     exact oH.out
    ·skip
     intro K hK
     go_simp
     refine hK.out _ _ (Or.inr (aP.alloc _)) ?_
     clear hK K
     have hn:=NI.new aP 38
     have hal:=(G.refl w6).alloc (.cells #[.bool false,.slice none 0 0] 38)
     have aD:=G.trans aP hal
     have HD7:=hid (HD6.out.G hal)
     have ak:w6.heap.size≠p4:=by have:=(HD6.out.is aP).1;omega
     generalize w6.heap.size=p2 at *
     generalize w6.alloc (.cells #[.bool false,.slice none 0 0] 38)=w7 at *
     have dJ:=hid hn
     have ah:Hid (p4≠p2):=ak.symm
     clear hn hal aP HD6 ak
     refine q02 (l':=#[false,true,true,true,true,true,false,true,true,true,true,true,false,false,false,false]) (by kernel_rfl) ?_
     revert ah
     revert dJ
     revert HD7
     revert aD
     revert p2
     revert o4
     revert p4
     revert w7
     exact oI.out
   ·skip
    intro K hK
    go_simp
    refine hK.out _ _ (Or.inr (hS5.alloc _)) ?_
    clear hK K
    have hn:=NI.new hS5 38
    have hal:=(G.refl w5).alloc (.cells #[.bool false,.slice none 0 0] 38)
    have aP:=G.trans hS5 hal
    generalize w5.heap.size=p2 at *
    generalize w5.alloc (.cells #[.bool false,.slice none 0 0] 38)=w6 at *
    have nT:=hid hn
    clear hn hal
    refine q0c (i:=0) (j:=5) (by kernel_rfl) rfl rfl ?_ ?_
    ·skip
     intro K hK
     go_simp
     refine hK.out _ _ (Or.inr (aP.alloc _)) ?_
     clear hK K
     have hn:=NI.new aP 38
     have hal:=(G.refl w6).alloc (.cells #[.bool false,.slice none 0 0] 38)
     have aD:=G.trans aP hal
     have dJ:=hid (nT.out.G hal)
     have ay:w6.heap.size≠p2:=by have:=nT.out.2.1;omega
     generalize w6.heap.size=p1 at *
     generalize w6.alloc (.cells #[.bool false,.slice none 0 0] 38)=w7 at *
     have dB:=hid hn
     have ag:Hid (p2≠p1):=ay.symm
     have af:Hid (p1≠p2):=ay
     clear hn hal aP nT ay
     refine q02 (l':=#[true,true,true,true,true,false,false,true,true,true,true,true,false,false,false,false]) (by kernel_rfl) ?_
     revert af
     revert ag
     revert dJ
     revert dB
     revert aD
     revert p2
     revert p1
     revert w7
     exact kZ.out
    ·skip
     intro K hK
     go_simp
     go_wp2_with (go_at_call 51;refine Calls.mono (P:=Tryz.prog) (q0J w3 w6 aP b2 ya yb dZ (G.lt hG3 hby) I8.out) ?_;intro e w7 hx;obtain⟨p4,o4,rfl,hg,h72,fH⟩:=hx)
     refine hK.out _ _ (Or.inr (G.trans aP hg)) ?_
     clear hK K
     have aD:=G.trans aP hg
     have HD7:=hid h72
     have ay:p4≠p2:=by have h1:=nT.out.1;have h2:=nT.out.2.1;omega
     have dJ:=hid (nT.out.G hg)
     have ah:Hid (p4≠p2):=ay
     clear hg h72 fH aP nT ay
     refine q02 (l':=#[false,true,true,true,true,true,false,true,true,true,true,true,false,false,false,false]) (by kernel_rfl) ?_
     revert ah
     revert dJ
     revert HD7
     revert aD
     revert p2
     revert o4
     revert p4
     revert w7
     exact oI.out
   refine Later.mk ?_
   intro w7 p4 o4 p2 aD HD7 dJ ah
   refine q03 (i:=0) (by kernel_rfl) rfl ?_
   intro K hK
   go_simp
   refine hK.out _ _ (Or.inr (aD.alloc _)) ?_
   clear hK K
   have hn:=NI.new aD 38
   have hal:=(G.refl w7).alloc (.cells #[.bool false,.slice none 0 0] 38)
   have aJ:=G.trans aD hal
   have bJ:=hid (HD7.out.G hal)
   have fT:=hid (dJ.out.G hal)
   have ak:w7.heap.size≠p4:=by have:=(HD7.out.is aD).1;omega
   have ay:w7.heap.size≠p2:=by have:=dJ.out.2.1;omega
   generalize w7.heap.size=p1 at *
   generalize w7.alloc (.cells #[.bool false,.slice none 0 0] 38)=w8 at *
   have bR:=hid hn
   have aa:Hid (p4≠p1):=ak.symm
   have ag:Hid (p2≠p1):=ay.symm
   have af:Hid (p1≠p2):=ay
   clear hn hal aD HD7 dJ ak ay
   refine q02 (l':=#[true,true,true,true,true,true,false,true,true,true,true,true,false,false,false,false]) (by kernel_rfl) ?_
   revert ah
   revert af
   revert ag
   revert aa
   revert fT
   revert bJ
   revert bR
   revert aJ
   revert p2
   revert o4
   revert p4
   revert p1
   revert w8
   exact iB.out
   refine Later.mk ?_
   intro w7 p1 p4 o4 aD dB HD7 aa
   refine q0c (i:=6) (j:=7) (by kernel_rfl) rfl rfl ?_ ?_
   ·skip
    intro K hK
    go_simp
    have eT:Hid _:=q1o w7 p1 0 bx 0 p4 o4 0 xa yb KB (by omega) jr.out jv.out dB.out.2.1 (G.lt (G.trans hG3 aD) hbx) (HD7.out.is aD).1 dB.out.2.2 (IntIs.G HX0.out hbx (G.trans hG3 aD)) (HD7.out.is aD).2
    go_wp2_with (go_at_call 50;refine Calls.mono (P:=Tryz.prog) eT.out ?_;intro e w8 hx;obtain⟨rfl,aJ,hl,-,hkp⟩:=SetTo.step aD dB.out hx)
    have bR:=hid hl
    have bJ:=hid (DI.keep HD7.out (hkp _ _ aa.out))
    refine hK.out _ _ (Or.inr aJ) ?_
    clear hK K hx hl hkp eT aD dB HD7
    refine q0c (i:=7) (j:=12) (by kernel_rfl) rfl rfl ?_ ?_
    ·skip
     intro K hK
     go_simp
     refine hK.out _ _ (Or.inr (aJ.alloc _)) ?_
     clear hK K
     have hn:=NI.new aJ 38
     have hal:=(G.refl w8).alloc (.cells #[.bool false,.slice none 0 0] 38)
     have aZ:=G.trans aJ hal
     have dF:=hid (bR.out.G hal)
     have bQ:=hid (bJ.out.G hal)
     have ae:w8.heap.size≠p1:=by have:=bR.out.2.1;omega
     have ak:w8.heap.size≠p4:=by have:=(bJ.out.is aJ).1;omega
     generalize w8.heap.size=p2 at *
     generalize w8.alloc (.cells #[.bool false,.slice none 0 0] 38)=w9 at *
     have jh:=hid hn
     have af:Hid (p1≠p2):=ae.symm
     have ag:Hid (p2≠p1):=ae
     have ah:Hid (p4≠p2):=ak.symm
     clear hn hal aJ bR bJ ae ak
     refine q02 (l':=#[true,true,true,true,true,true,true,true,true,true,true,true,false,false,false,false]) (by kernel_rfl) ?_
     revert ah
     revert af
     revert ag
     revert aa
     revert jh
     revert bQ
     revert dF
     revert aZ
     revert p2
     revert o4
     revert p4
     revert p1
     revert w9
     exact eQ.out
    ·skip
     intro K hK
     go_simp
     go_wp2_with (go_at_call 51;refine Calls.mono (P:=Tryz.prog) (q0J w3 w8 aJ bx xa xb iA (G.lt hG3 hbx) Pe.out) ?_;intro e w9 hx;obtain⟨p3,o3,rfl,hg,h72,fH⟩:=hx)
     refine hK.out _ _ (Or.inr (G.trans aJ hg)) ?_
     clear hK K
     have aZ:=G.trans aJ hg
     have qZ:=hid h72
     have ae:p3≠p1:=by have h1:=bR.out.1;have h2:=bR.out.2.1;omega
     have dF:=hid (bR.out.G hg)
     have bQ:=hid (bJ.out.G hg)
     have aK:Hid (p3≠p1):=ae
     clear hg h72 fH aJ bR bJ ae
     refine q03 (i:=7) (by kernel_rfl) rfl ?_
     intro K hK
     go_simp
     refine hK.out _ _ (Or.inr (aZ.alloc _)) ?_
     clear hK K
     have hn:=NI.new aZ 38
     have hal:=(G.refl w9).alloc (.cells #[.bool false,.slice none 0 0] 38)
     have aI:=G.trans aZ hal
     have bH:=hid (dF.out.G hal)
     have bF:=hid (bQ.out.G hal)
     have bK:=hid (qZ.out.G hal)
     have ae:w9.heap.size≠p1:=by have:=dF.out.2.1;omega
     have ak:w9.heap.size≠p4:=by have:=(bQ.out.is aZ).1;omega
     have cK:w9.heap.size≠p3:=by have:=(qZ.out.is aZ).1;omega
     generalize w9.heap.size=p2 at *
     generalize w9.alloc (.cells #[.bool false,.slice none 0 0] 38)=bE at *
     have bP:=hid hn
     have af:Hid (p1≠p2):=ae.symm
     have ag:Hid (p2≠p1):=ae
     have ah:Hid (p4≠p2):=ak.symm
     have aL:Hid (p3≠p2):=cK.symm
     clear hn hal aZ dF bQ qZ ae ak cK
     refine q02 (l':=#[true,true,true,true,true,true,true,true,true,true,true,true,true,false,false,false]) (by kernel_rfl) ?_
     revert aL
     revert ah
     revert af
     revert aK
     revert ag
     revert aa
     revert bK
     revert bP
     revert bF
     revert bH
     revert aI
     revert o3
     revert p3
     revert p2
     revert o4
     revert p4
     revert p1
     revert bE
     exact dA.out
   ·skip
    intro K hK
    go_simp
    refine hK.out _ _ (Or.inr (aD.alloc _)) ?_
    clear hK K
    have hn:=NI.new aD 38
    have hal:=(G.refl w7).alloc (.cells #[.bool false,.slice none 0 0] 38)
    have aJ:=G.trans aD hal
    have bR:=hid (dB.out.G hal)
    have bJ:=hid (HD7.out.G hal)
    have ae:w7.heap.size≠p1:=by have:=dB.out.2.1;omega
    have ak:w7.heap.size≠p4:=by have:=(HD7.out.is aD).1;omega
    generalize w7.heap.size=p2 at *
    generalize w7.alloc (.cells #[.bool false,.slice none 0 0] 38)=w8 at *
    have fT:=hid hn
    have af:Hid (p1≠p2):=ae.symm
    have ag:Hid (p2≠p1):=ae
    have ah:Hid (p4≠p2):=ak.symm
    clear hn hal aD dB HD7 ae ak
    refine q02 (l':=#[true,true,true,true,true,true,false,true,true,true,true,true,false,false,false,false]) (by kernel_rfl) ?_
    revert ah
    revert af
    revert ag
    revert aa
    revert fT
    revert bJ
    revert bR
    revert aJ
    revert p2
    revert o4
    revert p4
    revert p1
    revert w8
    exact iB.out
   refine Later.mk ?_
   intro w7 p1 p2 aD dB dJ ag af
   refine q03 (i:=5) (by kernel_rfl) rfl ?_
   intro K hK
   go_simp
   go_wp2_with (go_at_call 51;refine Calls.mono (P:=Tryz.prog) (q0J w3 w7 aD b2 ya yb dZ (G.lt hG3 hby) I8.out) ?_;intro e w8 hx;obtain⟨p4,o4,rfl,hg,h72,fH⟩:=hx)
   refine hK.out _ _ (Or.inr (G.trans aD hg)) ?_
   clear hK K
   have aJ:=G.trans aD hg
   have bJ:=hid h72
   have ae:p4≠p1:=by have h1:=dB.out.1;have h2:=dB.out.2.1;omega
   have ay:p4≠p2:=by have h1:=dJ.out.1;have h2:=dJ.out.2.1;omega
   have bR:=hid (dB.out.G hg)
   have fT:=hid (dJ.out.G hg)
   have aa:Hid (p4≠p1):=ae
   have ah:Hid (p4≠p2):=ay
   clear hg h72 fH aD dB dJ ae ay
   refine q02 (l':=#[true,true,true,true,true,true,false,true,true,true,true,true,false,false,false,false]) (by kernel_rfl) ?_
   revert ah
   revert af
   revert ag
   revert aa
   revert fT
   revert bJ
   revert bR
   revert aJ
   revert p2
   revert o4
   revert p4
   revert p1
   revert w8
   exact iB.out
   refine Later.mk ?_
   intro w8 p1 p4 o4 p2 aJ bR bJ fT aa ag af ah
   refine q03 (i:=6) (by kernel_rfl) rfl ?_
   intro K hK
   go_simp
   have eT:Hid _:=q1o w8 p1 0 bx 0 p4 o4 0 xa yb KB (by omega) jr.out jv.out bR.out.2.1 (G.lt (G.trans hG3 aJ) hbx) (bJ.out.is aJ).1 bR.out.2.2 (IntIs.G HX0.out hbx (G.trans hG3 aJ)) (bJ.out.is aJ).2
   go_wp2_with (go_at_call 50;refine Calls.mono (P:=Tryz.prog) eT.out ?_;intro e w9 hx;obtain⟨rfl,aZ,hl,-,hkp⟩:=SetTo.step aJ bR.out hx)
   have dF:=hid hl
   have bQ:=hid (DI.keep bJ.out (hkp _ _ aa.out))
   have jh:=hid (hkp _ _ ag.out fT.out)
   refine hK.out _ _ (Or.inr aZ) ?_
   clear hK K hx hl hkp eT aJ bR bJ fT
   refine q02 (l':=#[true,true,true,true,true,true,true,true,true,true,true,true,false,false,false,false]) (by kernel_rfl) ?_
   revert ah
   revert af
   revert ag
   revert aa
   revert jh
   revert bQ
   revert dF
   revert aZ
   revert p2
   revert o4
   revert p4
   revert p1
   revert w9
   exact eQ.out
   refine Later.mk ?_
   intro w9 p1 p4 o4 p2 aZ dF bQ jh aa ag af ah
   refine q03 (i:=12) (by kernel_rfl) rfl ?_
   intro K hK
   go_simp
   go_wp2_with (go_at_call 51;refine Calls.mono (P:=Tryz.prog) (q0J w3 w9 aZ bx xa xb iA (G.lt hG3 hbx) Pe.out) ?_;intro e bE hx;obtain⟨p3,o3,rfl,hg,h72,fH⟩:=hx)
   refine hK.out _ _ (Or.inr (G.trans aZ hg)) ?_
   clear hK K
   have aI:=G.trans aZ hg
   have bK:=hid h72
   have ae:p3≠p1:=by have h1:=dF.out.1;have h2:=dF.out.2.1;omega
   have ay:p3≠p2:=by have h1:=jh.out.1;have h2:=jh.out.2.1;omega
   have bH:=hid (dF.out.G hg)
   have bF:=hid (bQ.out.G hg)
   have bP:=hid (jh.out.G hg)
   have aK:Hid (p3≠p1):=ae
   have aL:Hid (p3≠p2):=ay
   clear hg h72 fH aZ dF bQ jh ae ay
   refine q02 (l':=#[true,true,true,true,true,true,true,true,true,true,true,true,true,false,false,false]) (by kernel_rfl) ?_
   revert aL
   revert ah
   revert af
   revert aK
   revert ag
   revert aa
   revert bK
   revert bP
   revert bF
   revert bH
   revert aI
   revert o3
   revert p3
   revert p2
   revert o4
   revert p4
   revert p1
   revert bE
   exact dA.out
   refine Later.mk ?_
   intro bE p1 p4 o4 p2 p3 o3 aI bH bF bP bK aa ag aK af ah aL
   refine q03 (i:=13) (by kernel_rfl) rfl ?_
   intro K hK
   go_simp
   have eT:Hid _:=q1o bE p2 0 b2 0 p3 o3 0 ya xb KB (by omega) lU.out lW.out bP.out.2.1 (G.lt (G.trans hG3 aI) hby) (bK.out.is aI).1 bP.out.2.2 (IntIs.G sS.out hby (G.trans hG3 aI)) (bK.out.is aI).2
   go_wp2_with (go_at_call 50;refine Calls.mono (P:=Tryz.prog) eT.out ?_;intro e eB hx;obtain⟨rfl,bI,hl,-,hkp⟩:=SetTo.step aI bP.out hx)
   have gG:=hid hl
   have iC:=hid (hkp _ _ af.out bH.out)
   have iK:=hid (DI.keep bF.out (hkp _ _ ah.out))
   have gU:=hid (DI.keep bK.out (hkp _ _ aL.out))
   refine hK.out _ _ (Or.inr bI) ?_
   clear hK K hx hl hkp eT aI bH bF bP bK
   refine q03 (i:=14) (by kernel_rfl) rfl ?_
   intro K hK
   go_simp
   go_wp2_with (go_at_call 142;refine Calls.mono (P:=Tryz.prog) (q4L eB p1 0 p2 0 (xa*(yb:Int)) (ya*(xb:Int)) (2*KB) (by omega) oO.out dE.out iC.out.2.1 gG.out.2.1 iC.out.2.2 gG.out.2.2) ?_;rintro e gV ⟨rfl,hg⟩)
   refine hK.out _ _ (Or.inl (by decide)) ?_
   clear hK K
   have l5:=G.trans bI hg
   have jm:=hid (iC.out.G hg)
   have nJ:=hid (iK.out.G hg)
   have jl:=hid (gG.out.G hg)
   have nK:=hid (gU.out.G hg)
   clear hg bI iC iK gG gU
   refine q03 (i:=15) (by kernel_rfl) rfl ?_
   intro K hK
   go_simp
   refine hK.out _ _ (Or.inl (by decide)) ?_
   clear hK K
   refine q0l (by kernel_rfl) ?_ _
   revert aL
   revert ah
   revert af
   revert aK
   revert ag
   revert aa
   revert nK
   revert jl
   revert nJ
   revert jm
   revert l5
   revert o3
   revert p3
   revert p2
   revert o4
   revert p4
   revert p1
   revert gV
   exact LX.out
  ·skip
   refine Later.mk ?_
   intro gV p1 p4 o4 p2 p3 o3 l5 jm nJ jl nK aa ag aK af ah aL
   have hG:=G.trans hG3 l5
   go_wp2_with fail
   go_ret
   exact⟨rfl,hG⟩
/-- Words laid over a row of our own. -/
theorem q7j {w:World} {b:Nat}:∀ {m l:List Nat} {o:Nat},Own w b l→okw m→o+m.length≤l.length→
  Own (w.setCells b o (m.map fun d=> .int .u32 (d:Nat))) b (l.take o++(m++l.drop (o+m.length))):=by
 intro m
 induction m generalizing w with
 |nil=>intro l o h _ _;simpa [World.setCells] using h
 |cons d m ih=>
  intro l o h hm hl
  obtain⟨hd,hm'⟩:=okw_cons.1 hm
  simp only[List.length_cons] at hl
  have h1:=Own.set h o d (by omega) hd
  have h2:=ih (l:=l.set o d) (o:=o+1) h1 hm' (by rw[List.length_set];omega)
  rw[List.map_cons]
  simp only[World.setCells]
  have e:(l.set o d).take (o+1)++(m++(l.set o d).drop (o+1+m.length))=l.take o++(d::m++l.drop (o+(m.length+1))):=by
   rw[q1m (by rw[List.length_set];omega),q0G,q0f (by omega),List.drop_set_of_lt (by omega)]
   simp [Nat.add_comm,Nat.add_left_comm]
  rw[List.length_cons,← e]
  exact h2
theorem q79 {w0:World} {b:Nat} (hb:w0.heap.size≤b):∀ (cs:List Value) (w:World) (o:Nat),G w0 w→G w0 (w.setCells b o cs)
 |[],_,_,h=>h
 |v::cs,_,o,h=>q79 hb cs _ _ (G.setCell h (p:=⟨b,o,none⟩) hb v)
theorem q7a {w:World} {b o:Nat} {l:List Nat} (h:Row w b o l):∀ j v,(l.map fun d=>Value.int .u32 (d:Nat))[j]? =some v→w.cell? ((⟨b,o,none⟩:Addr).add j)=some v:=by
 intro j u hj
 rw[List.getElem?_map] at hj
 obtain⟨d,hd,rfl⟩:=Option.map_eq_some_iff.1 hj
 have:=h j (List.getElem?_eq_some_iff.1 hd).1
 rw[List.getD_eq_getElem?_getD,hd] at this
 rw[show ((⟨b,o,none⟩:Addr).add j)=⟨b,o+j,none⟩ from Addr.add_lit ..]
 exact this
theorem q7y (l:List Nat):∀ u∈(l.map fun d=>Value.int .u32 (d:Nat)),u.oneCell'=true:=by
 intro u hu
 obtain⟨d,-,rfl⟩:=List.mem_map.1 hu
 rfl
/-- 'copy' of a slice to the beginning of a row of our own that is newer than w0. -/
theorem q71 {w0 w:World} {b n:Nat} {zs l:List Nat} {va:Value} (h:Own w b zs) (hz:zs.length=n) (ha:Sl w va l) (hl:l.length≤n) (g:G w0 w) (hb:w0.heap.size≤b) (ty:TypeId):
  ∃ w',(Builtin.copy_ #[36,36] ty #[.slice (some ⟨b,0,none⟩) n n,va]).run Tryz.prog w= .ok (goInt l.length) w'∧Own w' b (l++zs.drop l.length)∧G w0 w':=by
 have hok:=ha.1
 rcases Sl.cases ha with ⟨rfl,a,c,rfl⟩|⟨hne,b1,o1,c1,rfl,hc1,hb1,hr1⟩
 ·exact⟨w,run_copy_none w 36 36 ty 187 _ _ _ _ _ _ Tryz.underlying36 (by kernel_rfl) (by simp),h,g⟩
 ·have hc:=q7j (o:=0) h hok (by omega)
  rw[List.take_zero,List.nil_append,Nat.zero_add] at hc
  have hrun:=run_copy_cells (P:=Tryz.prog) w 36 36 ty 187 b 0 n n ⟨b1,o1,none⟩ l.length c1 (l.map fun d=> .int .u32 (d:Nat)) Tryz.underlying36 (by kernel_rfl)
   (by rw[List.length_map];exact(Nat.min_eq_left hl).symm) (q7a hr1)
   (fun i hi=>by rw[List.length_map] at hi;rw[Nat.zero_add,Own.cell h (by omega)];rfl)
   (fun i hi=>by rw[List.length_map] at hi;rw[Nat.zero_add];exact Own.frozen h (by omega)) (q7y l)
  rw[List.length_map] at hrun
  exact⟨_,hrun,hc,q79 hb _ _ _ g⟩
theorem q56 (n:Nat):val (List.replicate n 0)=0:=by
 induction n with
 |zero=>rfl
 |succ n ih=>rw[List.replicate_succ,val,ih]
theorem qch (w:World) (bx ox n:Nat) (v:Value) (l:List Nat) (hn:n≤1048576) (hl:Sl w v l) (hln:l.length≤n) (hx:q5D w bx ox false v) (hbx:bx<w.heap.size):
  Calls Tryz.prog 205 #[.pointer (some ⟨bx,ox,none⟩),.int .i64 (n:Int)] w fun e w'=>∃ b cs,e= .returned (.slice (some ⟨b,0,none⟩) n n)∧G w w'∧w.heap.size≤b∧Own w' b cs∧cs.length=n∧cs=l++List.replicate (n-l.length) 0:=by
 obtain⟨c1,c2,-,-⟩:=hx
 have hmk:=q1c n (by omega)
 have hgm:G w (w.alloc (.cells (madeCells #[.int .u32 0] n) 187)):=(G.refl _).alloc _
 obtain⟨w1,hrun,hown,hG⟩:=q71 (n:=n) (va:=v) (q0B w n 187) (by simp) (hl.G hgm) hln hgm (Nat.le_refl _) 3
 rw[List.drop_replicate] at hown
 have HO:Hid _:=hown
 have d1:=hG.cell hbx c1
 have hpl:(l++List.replicate (n-l.length) 0).length=n:=by simp;omega
 have GM:Hid _:=hpl
 clear hown hl hln hn hpl
 generalize l++List.replicate (n-l.length) 0=cs at *
 go_enter Tryz.func205,Tryz.ntmps205
 go_wp2_with fail
 go_ret
 exact⟨w.heap.size,cs,rfl,hG,Nat.le_refl _,HO.out,GM.out,rfl⟩
theorem of_c (w:World) (b o p n:Nat) (s0:Int) (cs:List Nat) (hn:n+1≤1048576) (hb:b<w.heap.size) (hz:IntIs w b o s0) (hown:Own w p cs) (hcs:cs.length=n+1) (htop:cs.getD n 0<2^31):
  Calls Tryz.prog 206 #[.pointer (some ⟨b,o,none⟩),.slice (some ⟨p,0,none⟩) (n+1) (n+1)] w (SetTo w b o (val cs:Nat)):=by
 have HZ:Hid _:=hz
 have hT:Hid _:=q0F hown hcs (by omega)
 have hnb:(n:Int)≤1048575:=by omega
 have hc:=Own.cell hown (i:=n) (by rw[hcs];omega)
 have hlt:((cs.getD n 0:Nat):Int)/2147483648=0:=by omega
 generalize val cs=V at *
 generalize cs.getD n 0=z at *
 clear hz hown hcs htop
 go_enter Tryz.func206,Tryz.ntmps206
 go_wp2_with fail
 refine Calls.mono (P:=Tryz.prog) hT.out ?_
 rintro e w2 ⟨v1,rfl,hg2,hn2⟩
 go_wp2_with fail
 refine Calls.mono (P:=Tryz.prog) (q0S (w0:=w) hb hg2 (q1f _ b o _ s0 _ _ (IntIs.G HZ.out hb hg2) hn2)) ?_
 rintro e w3 ⟨rfl,hs3⟩
 go_wp2_with fail
 go_ret
 exact hs3
theorem q65 {cs:List Nat} {i q s:Nat} (hok:okw cs) (hi:i=32*q+s) (hs:s≤31) (hq:q<cs.length):val cs/2^i%2=cs.getD q 0/2^s%2:=by
 have e:val cs/2^i=val (cs.drop q)/2^s:=by
  rw[q1l hok q,Nat.div_div_eq_div_mul,← Nat.pow_add,← hi]
 rw[e,q0g hq]
 show (cs.getD q 0+2^32*val (cs.drop (q+1)))/2^s%2=_
 have h2:2^32*val (cs.drop (q+1))=2^s*(2*(2^(31-s)*val (cs.drop (q+1)))):=by
  rw[← Nat.mul_assoc 2,← Nat.pow_succ',← Nat.mul_assoc,← Nat.pow_add,show s+(31-s+1)=32 from by omega]
 rw[h2,Nat.add_mul_div_left _ _ (Nat.two_pow_pos _),Nat.add_mul_mod_self_left]
theorem q6w {cs:List Nat} {q y:Nat} (hq:q<cs.length):val (cs.set q (cs.getD q 0+y))=val cs+2^(32*q)*y:=by
 rw[q0s (l:=cs.set q (cs.getD q 0+y)) (k:=q) (by rw[List.length_set];exact hq),q0s (l:=cs) hq,q0G,q0f hq,List.drop_set_of_lt (by omega)]
 rw[Nat.mul_add,Nat.mul_add,Nat.mul_add]
 omega
theorem q5h {x s:Nat} (hx:x<2^32) (hb:x/2^s%2=0) (hs:s≤31):bits .andNot .u32 (x:Int) (2^s%4294967296)=(x:Int)∧bits .or .u32 (x:Int) (bits .and .u64 1 1%4294967296*2^s%4294967296)=((x+2^s:Nat):Int)∧x+2^s<2^32:=by
 have hp:2^s≤2^31:=Nat.pow_le_pow_right (by omega) hs
 have e1:((2:Int)^s%4294967296)=((2^s:Nat):Int):=by
  rw[FT.ipow]
  generalize 2^s=p at *
  omega
 have e2:bits .and .u64 1 1%4294967296*2^s%4294967296=((2^s:Nat):Int):=by
  rw[show bits .and .u64 1 1=1 from by decide,FT.ipow]
  generalize 2^s=p at *
  omega
 have II:=Nat.div_add_mod x (2^(s+1))
 have hlo:x%2^(s+1)=x%2^s:=by
  rw[Nat.pow_succ,Nat.mod_mul,hb,Nat.mul_zero,Nat.add_zero]
 have hl2:x%2^s<2^s:=Nat.mod_lt _ (Nat.two_pow_pos s)
 have hor:x|||2^s=x+2^s:=by
  have h1:x=2^(s+1)*(x/2^(s+1))|||x%2^s:=by
   rw[nat_join (s+1) _ _ (Nat.mul_mod_right _ _) (by rw[Nat.pow_succ];omega),← hlo]
   exact II.symm
  have h2:x|||2^s=2^(s+1)*(x/2^(s+1))|||(2^s|||x%2^s):=by
   rw[Nat.or_comm (2^s),← Nat.or_assoc,← h1]
  rw[h2,nat_join s (2^s) _ (Nat.mod_self _) hl2,nat_join (s+1) _ _ (Nat.mul_mod_right _ _) (by rw[Nat.pow_succ];omega),← hlo]
  omega
 refine⟨?_,?_,?_⟩
 ·rw[e1,u32_andNot_nat x _ hx (by omega)]
  congr 1
  apply Nat.eq_of_testBit_eq
  intro j
  rw[Nat.testBit_and,show 4294967295-2^s=2^32-(2^s+1) from by omega,Nat.testBit_two_pow_sub_succ (by omega),Nat.testBit_two_pow]
  by_cases hj:s=j
  ·subst hj
   rw[Nat.testBit_eq_decide_div_mod_eq,hb]
   simp
  ·by_cases h32:j<32
   ·simp [hj,h32]
   ·rw[Nat.testBit_lt_two_pow (Nat.lt_of_lt_of_le hx (Nat.pow_le_pow_right (by omega) (by omega)))]
    simp
 ·rw[e2,u32_or_nat x _ hx (by omega),hor]
 ·rw[← hor];exact Nat.or_lt_two_pow hx (by omega)
theorem q8I (w:World) (b bx ox i:Nat) (s0:Int) (a K:Nat) (hK:K≤500000) (hi:i≤10000000) (ha2:a<2^(32*K)) (hbit:a/2^i%2=0) (hb:b<w.heap.size) (hbx:bx<w.heap.size)
  (hz:IntIs w b 0 s0) (hx:IntIs w bx ox (a:Int)):
  Calls Tryz.prog 147 #[.pointer (some ⟨b,0,none⟩),.pointer (some ⟨bx,ox,none⟩),.int .i64 (i:Int),.int .u64 1] w (SetTo w b 0 ((a+2^i:Nat):Int)):=by
 obtain⟨nn,v,a',hat,hv,h1,h2⟩:=hx
 have ha:=q0Q h1
 rw[Int.natAbs_natCast] at ha
 subst ha
 have hn:nn=false:=by
  cases nn
  ·rfl
  ·have:=h2 rfl
   unfold sg at h1
   simp at h1
   omega
 subst hn
 obtain⟨l,hl,hcl,hval⟩:=hv
 rw[← hval] at ha2 hbit ⊢
 have hll:=q05 hcl ha2
 obtain⟨pa,ca,rfl,eX,-⟩:=q0m hl
 generalize hj:l.length=j at *
 obtain⟨n,hnn⟩:∃ n:Nat,n=max j (i/32+1):=⟨_,rfl⟩
 have hd1:(i:Int)/32=((i/32:Nat):Int):=by omega
 have hd2:(i:Int)%32=((i%32:Nat):Int):=by omega
 have PE:IntKind.u64.wrap (i:Int)=i:=by rw[IntKind.wrap_u64];omega
 generalize hq:i/32=q at *
 generalize hsn:i%32=s at *
 have nX:Hid _:=qch w bx ox (n+1) _ l (by omega) (by rw[← hj] at *;exact hl) (by omega) hat hbx
 obtain⟨c1,c2,-,-⟩:=hat
 have hib:(i:Int)≤10000000:=by omega
 have vR:(q:Int)≤312500:=by omega
 have hjb:(j:Int)≤500000:=by omega
 have hnb:(n:Int)≤500000:=by omega
 have Ns:(q:Int)<n:=by omega
 have HI:Hid _:=And.intro hq hsn
 have HB:Hid _:=hbit
 have oN:Hid _:=hb
 have HZ:Hid _:=hz
 clear hK ha2 hll hcl hb hq hsn hbit hz h1 h2 hval
 by_cases hjq:q+1≤j
 ·obtain rfl:n=j:=by omega
  have t0:(q:Int)+1≤n:=by omega
  clear hnn
  go_enter Tryz.func147,Tryz.ntmps147
  go_wp2_with fail
  refine Calls.mono (P:=Tryz.prog) nX.out ?_
  rintro e w1 ⟨p,cs,rfl,g1,hp,hown,hlen,hcs⟩
  have hc:=Own.cell hown (i:=q) (by omega)
  have hf:=Own.frozen hown (i:=q) (by omega)
  have hx32:=q04 hown.1 q
  have hv0:val cs=val l:=by rw[hcs,val_append,q56,Nat.mul_zero,Nat.add_zero]
  have hgn:cs.getD n 0=0:=by
   rw[hcs,List.getD_eq_getElem?_getD,List.getElem?_append_right (by omega),List.getElem?_replicate]
   split<;>rfl
  have hbw:=q65 hown.1 (i:=i) (q:=q) (s:=s) (by have:=HI.out;omega) (by have:=HI.out;omega) (by omega)
  rw[hv0,HB.out] at hbw
  have hset:val (cs.set q (cs.getD q 0+2^s))=val l+2^i:=by rw[q6w (by omega),hv0,show i=32*q+s from by have:=HI.out;omega,Nat.pow_add]
  generalize fU:cs.getD q 0=x at *
  obtain⟨PG,PH,IJ⟩:=q5h (s:=s) hx32 hbw.symm (by have:=HI.out;omega)
  have HOW:Hid _:=Own.set (Own.set hown q x (by omega) hx32) q (x+2^s) (by rw[List.length_set];omega) IJ
  have HF:Hid ((((cs.set q x).set q (x+2^s)).getD n 0<2^31∧((cs.set q x).set q (x+2^s)).length=n+1)∧val ((cs.set q x).set q (x+2^s))=val l+2^i):=by
   rw[List.set_set]
   refine⟨⟨?_,by rw[List.length_set];exact hlen⟩,hset⟩
   rw[List.getD_eq_getElem?_getD,List.getElem?_set_ne (by omega),← List.getD_eq_getElem?_getD,hgn]
   omega
  have hxi:(x:Int)≤4294967295:=by omega
  have hG2:G w _:=G.setCell (G.setCell g1 (p:=⟨p,q,none⟩) hp (.int .u32 (x:Int))) (p:=⟨p,q,none⟩) hp (.int .u32 ((x+2^s:Nat):Int))
  generalize (cs.set q x).set q (x+2^s)=ds at *
  clear hown hcs hset hgn hv0 hbw
  go_wp2_with fail
  refine Calls.mono (P:=Tryz.prog) (q0S (w0:=w) oN.out hG2 (of_c _ b 0 p n s0 ds (by omega) (G.lt hG2 oN.out) (IntIs.G HZ.out oN.out hG2) HOW.out HF.out.1.2 HF.out.1.1)) ?_
  rintro e w3 ⟨rfl,hs3⟩
  rw[HF.out.2] at hs3
  go_wp2_with fail
  go_ret
  exact hs3
 ·have hnq:n=q+1:=by omega
  have PI:Hid _:=hnq
  have PK:j<n:=by omega
  clear hnq hjq
  have t1:(q:Int)+1=n:=by have:=PI.out;omega
  have t0:(j:Int)<n:=by omega
  clear hnn
  go_enter Tryz.func147,Tryz.ntmps147
  go_wp2_with fail
  refine Calls.mono (P:=Tryz.prog) nX.out ?_
  rintro e w1 ⟨p,cs,rfl,g1,hp,hown,hlen,hcs⟩
  have hc:=Own.cell hown (i:=q) (by omega)
  have hf:=Own.frozen hown (i:=q) (by omega)
  have hx32:=q04 hown.1 q
  have hv0:val cs=val l:=by rw[hcs,val_append,q56,Nat.mul_zero,Nat.add_zero]
  have hgn:cs.getD n 0=0:=by
   rw[hcs,List.getD_eq_getElem?_getD,List.getElem?_append_right (by omega),List.getElem?_replicate]
   split<;>rfl
  have hbw:=q65 hown.1 (i:=i) (q:=q) (s:=s) (by have:=HI.out;omega) (by have:=HI.out;omega) (by omega)
  rw[hv0,HB.out] at hbw
  have hset:val (cs.set q (cs.getD q 0+2^s))=val l+2^i:=by rw[q6w (by omega),hv0,show i=32*q+s from by have:=HI.out;omega,Nat.pow_add]
  generalize fU:cs.getD q 0=x at *
  obtain⟨PG,PH,IJ⟩:=q5h (s:=s) hx32 hbw.symm (by have:=HI.out;omega)
  have HOW:Hid _:=Own.set (Own.set hown q x (by omega) hx32) q (x+2^s) (by rw[List.length_set];omega) IJ
  have HF:Hid ((((cs.set q x).set q (x+2^s)).getD n 0<2^31∧((cs.set q x).set q (x+2^s)).length=n+1)∧val ((cs.set q x).set q (x+2^s))=val l+2^i):=by
   rw[List.set_set]
   refine⟨⟨?_,by rw[List.length_set];exact hlen⟩,hset⟩
   rw[List.getD_eq_getElem?_getD,List.getElem?_set_ne (by omega),← List.getD_eq_getElem?_getD,hgn]
   omega
  have hxi:(x:Int)≤4294967295:=by omega
  have hG2:G w _:=G.setCell (G.setCell g1 (p:=⟨p,q,none⟩) hp (.int .u32 (x:Int))) (p:=⟨p,q,none⟩) hp (.int .u32 ((x+2^s:Nat):Int))
  generalize (cs.set q x).set q (x+2^s)=ds at *
  clear hown hcs hset hgn hv0 hbw
  go_wp2_with fail
  refine Calls.mono (P:=Tryz.prog) (q0S (w0:=w) oN.out hG2 (of_c _ b 0 p n s0 ds (by omega) (G.lt hG2 oN.out) (IntIs.G HZ.out oN.out hG2) HOW.out HF.out.1.2 HF.out.1.1)) ?_
  rintro e w3 ⟨rfl,hs3⟩
  rw[HF.out.2] at hs3
  go_wp2_with fail
  go_ret
  exact hs3
end Go.Proofs.YtemmkninoiclfaaGreatDoor
