/- What is proved here: contracts of the reference: powers of two as ratios, over this seat's translation.
What is proved here: contracts of the reference's ratios: den of any Rat, laid or new, over this seat's translation.
What is proved here: contracts of the reference's ratios: Add of Rat, of laid ones and of new ones, over this seat's translation.
What is proved here: contracts of the reference's ratios: Mul of Rat, of laid ones and of new ones, over this seat's translation.
What is proved here: contracts of the reference's ratios: Cmp of Rat, of laid ones and of new ones, over this seat's translation.
What is proved here: contracts of the reference's big numbers: 'copy' of words, low, of, SetBit of an Int that isn't below 0, over this seat's translation. -/
import Derived.Test.YtemmkninoiclfaaGreatDoorC21
import Derived.Test.YtemmkninoiclfaaGreatDoorC12
import Derived.Test.YtemmkninoiclfaaGreatDoorC17
import Derived.Laws.IdiomCopy
namespace Go.Proofs.YtemmkninoiclfaaGreatDoor
open Go.ChangeShapes Go.WideShapes Go.ChangeAt Go.RowKit
open BN
/-- A call hands back a new Rat; nothing that was there has turned. -/
def RetR (w:World) (sa:Int) (sb:Nat) (e:Ending) (w':World):Prop:=∃ p,e= .returned (.pointer (some ⟨p,0,none⟩))∧G w w'∧w.heap.size≤p∧p<w'.heap.size∧RatIs w' p sa (sb:Int)
theorem NormTo.ret {w0 w:World} {b:Nat} {sa:Int} {sb:Nat} {e:Ending} {w':World} (g:G w0 w) (hb:w0.heap.size≤b) (hs:b<w.heap.size) (h:NormTo w b sa sb e w'):RetR w0 sa sb e w':=
 ⟨b,h.1,GX.fresh g h.2.1 hb,hb,Nat.lt_of_lt_of_le hs h.2.1.size,h.2.2⟩
theorem qa5 (w:World) (k K:Nat) (hk:k≤6000) (hK:K≤300) (I6:k<32*K):Calls Tryz.prog 74 #[.int .i64 (k:Int)] w (RetR w (2^k:Nat) 1):=by
 have hkb:(k:Int)≤6000:=by omega
 have I7:Hid (2^k<2^(32*K)):=Nat.pow_lt_pow_right (by omega) I6
 have oW:Hid (1≤K∧1<2^(32*K)):=⟨by omega,Nat.one_lt_two_pow (by omega)⟩
 go_enter Tryz.func74,Tryz.ntmps74
 go_wp2_with fail
 have hn0:=NI.new (G.refl w) 38
 have bO:=(G.refl w).alloc (.cells #[.bool false,.slice none 0 0] 38)
 generalize w.heap.size=pn at *
 generalize w.alloc (.cells #[.bool false,.slice none 0 0] 38)=wa at *
 refine Calls.mono (P:=Tryz.prog) (q1p wa 1 (by omega)) ?_
 intro e w1 h
 obtain⟨p1,rfl,hg1,hp1,hp2,hpi⟩:=h
 have hG1:=G.trans bO hg1
 have hN1:=hn0.G hg1
 have HL:Hid _:=q1K w1 pn 0 p1 0 k 0 1 K (by omega) (by omega) oW.out.2 hN1.2.1 hp2 hN1.2.2 hpi
 have nH:Hid (NI w w1 pn 0):=hN1
 clear hn0 bO hg1 hp1 hp2 hpi hN1
 go_wp2_with fail
 refine Calls.mono (P:=Tryz.prog) HL.out ?_
 intro e w2 hs
 obtain⟨rfl,hG2,iB,-,-⟩:=SetTo.step hG1 nH.out hs
 rw[show (1:Int)*2^k=((2^k:Nat):Int) from by push_cast;rw[Int.one_mul]] at iB
 have cu:Hid (NI w w2 pn ((2^k:Nat):Int)):=iB
 clear hs iB HL nH hG1
 go_wp2_with fail
 have hr0:=q2Q w2 40
 have hga:=(G.refl w2).alloc (.cells #[.bool false,.slice none 0 0,.bool false,.slice none 0 0] 40)
 have gy:=cu.out.G hga
 have hG3:=G.trans hG2 hga
 have hzs:w2.heap.size<(w2.alloc (.cells #[.bool false,.slice none 0 0,.bool false,.slice none 0 0] 40)).heap.size:=by simp
 have hz0:w.heap.size≤w2.heap.size:=hG2.size
 generalize w2.heap.size=pz at *
 generalize w2.alloc (.cells #[.bool false,.slice none 0 0,.bool false,.slice none 0 0] 40)=w3 at *
 have HS:Hid _:=q9k w3 pz pn 0 0 0 ((2^k:Nat):Int) K (by omega) oW.out.1 (by rw[Int.natAbs_natCast];exact I7.out) hzs gy.2.1 hr0 gy.2.2
 clear hr0 hga gy cu hG2
 refine Calls.mono (P:=Tryz.prog) HS.out ?_
 intro e w4 hs
 obtain⟨p,rfl,k1,k2,k3,k4⟩:=NormTo.ret hG3 hz0 hzs hs
 have xX:Hid (RatIs w4 p ((2^k:Nat):Int) ((1:Nat):Int)):=k4
 clear hs k4 HS
 go_wp2_with fail
 go_ret
 exact⟨p,rfl,k1,k2,k3,xX.out⟩
theorem q7G (w:World) (k K:Nat) (hk0:0<k) (hk:k≤6000) (hK:K≤300) (I6:k<32*K):Calls Tryz.prog 74 #[.int .i64 (-(k:Int))] w (RetR w 1 (2^k)):=by
 have hkb:(k:Int)≤6000:=by omega
 have hkp:(1:Int)≤k:=by omega
 have I7:Hid (2^k<2^(32*K)):=Nat.pow_lt_pow_right (by omega) I6
 have oW:Hid (1≤K∧1<2^(32*K)):=⟨by omega,Nat.one_lt_two_pow (by omega)⟩
 have G5:Hid (Int.tdiv 1 (Nat.gcd (1:Int).natAbs (2^k):Nat)=1∧2^k/Nat.gcd (1:Int).natAbs (2^k)=2^k):=by
  have:Nat.gcd (1:Int).natAbs (2^k)=1:=Nat.gcd_one_left _
  rw[this];exact⟨rfl,Nat.div_one _⟩
 go_enter Tryz.func74,Tryz.ntmps74
 go_wp2_with fail
 have hn0:=NI.new (G.refl w) 38
 have bO:=(G.refl w).alloc (.cells #[.bool false,.slice none 0 0] 38)
 generalize w.heap.size=pn at *
 generalize w.alloc (.cells #[.bool false,.slice none 0 0] 38)=wa at *
 refine Calls.mono (P:=Tryz.prog) (q1p wa 1 (by omega)) ?_
 intro e w1 h
 obtain⟨p1,rfl,hg1,hp1,hp2,hpi⟩:=h
 have hG1:=G.trans bO hg1
 have hN1:=hn0.G hg1
 have HL:Hid _:=q1K w1 pn 0 p1 0 k 0 1 K (by omega) (by omega) oW.out.2 hN1.2.1 hp2 hN1.2.2 hpi
 have nH:Hid (NI w w1 pn 0):=hN1
 clear hn0 bO hg1 hp1 hp2 hpi hN1
 go_wp2_with fail
 refine Calls.mono (P:=Tryz.prog) HL.out ?_
 intro e w2 hs
 obtain⟨rfl,hG2,iB,-,-⟩:=SetTo.step hG1 nH.out hs
 rw[show (1:Int)*2^k=((2^k:Nat):Int) from by push_cast;rw[Int.one_mul]] at iB
 have cu:Hid (NI w w2 pn ((2^k:Nat):Int)):=iB
 clear hs iB HL nH hG1
 go_wp2_with fail
 have hr0:=q2Q w2 40
 have hga:=(G.refl w2).alloc (.cells #[.bool false,.slice none 0 0,.bool false,.slice none 0 0] 40)
 have gy:=cu.out.G hga
 have hG3:=G.trans hG2 hga
 have hzs:w2.heap.size<(w2.alloc (.cells #[.bool false,.slice none 0 0,.bool false,.slice none 0 0] 40)).heap.size:=by simp
 have hz0:w.heap.size≤w2.heap.size:=hG2.size
 generalize w2.heap.size=pz at *
 generalize w2.alloc (.cells #[.bool false,.slice none 0 0,.bool false,.slice none 0 0] 40)=w3 at *
 have HR3:Hid (RatIs w3 pz 0 0):=hr0
 have fQ:Hid (NI w w3 pn ((2^k:Nat):Int)):=gy
 clear hr0 hga gy cu hG2
 refine Calls.mono (P:=Tryz.prog) (q1p w3 1 (by omega)) ?_
 intro e w4 h
 obtain⟨p4,rfl,hg4,-,Ct,eQ⟩:=h
 have hG4:=G.trans hG3 hg4
 have nI:=fQ.out.G hg4
 have HS:Hid _:=q0Y w4 pz p4 0 pn 0 0 0 1 (2^k) K (by omega) oW.out.2 I7.out (Nat.two_pow_pos k) (G.lt hg4 hzs) Ct nI.2.1 (HR3.out.G hzs hg4) eQ nI.2.2
 rw[G5.out.1,G5.out.2] at HS
 have I8:=G.lt hg4 hzs
 clear hg4 Ct eQ nI fQ HR3 hG3
 go_wp2_with fail
 refine Calls.mono (P:=Tryz.prog) HS.out ?_
 intro e w5 hs
 obtain⟨p,rfl,k1,k2,k3,k4⟩:=NormTo.ret hG4 hz0 I8 hs
 have xX:Hid (RatIs w5 p 1 ((2^k:Nat):Int)):=k4
 clear hs k4 HS
 go_wp2_with fail
 go_ret
 exact⟨p,rfl,k1,k2,k3,xX.out⟩
/-- den: of a new Rat it is a new 1. -/
theorem qb4 (w:World) (b:Nat) (xb:Nat) (hxb:xb=1) (h:RatIs w b 0 0):
  Calls Tryz.prog 51 #[.pointer (some ⟨b,0,none⟩)] w (RetI w (xb:Int)):=by
 obtain⟨-,n,v,a,⟨c1,c2,-,-⟩,⟨l,hl,hcl,hlv⟩,h1,-⟩:=h
 have ha:=q0Q h1
 obtain⟨p,c,rfl,-,-⟩:=q0m hl
 have hl0:l.length=0:=by
  have h0:val l=0:=by rw[hlv];omega
  rw[(q0U hcl).1 h0]
  rfl
 rw[hl0] at c2
 have HN:Hid _:=q1p w (xb:Int) ⟨by omega,by omega⟩
 rw[hxb] at HN ⊢
 clear hl hcl hlv h1 ha hl0
 go_enter Tryz.func51,Tryz.ntmps51
 go_wp2_with fail
 refine Calls.mono (P:=Tryz.prog) HN.out ?_
 rintro e w2 ⟨p,rfl,k1,k2,k3,k4⟩
 have HK:Hid _:=k4
 clear k4 HN
 go_wp2_with fail
 go_ret
 exact⟨p,rfl,k1,k2,k3,HK.out⟩
/-- A Rat, laid or new (then it is 0). -/
def RatV (w:World) (b:Nat) (xa:Int) (xb:Nat):Prop:=RatIs w b xa (xb:Int)∨(xa=0∧xb=1∧RatIs w b 0 0)
theorem RatV.G {w w':World} {b:Nat} {xa:Int} {xb:Nat} (h:RatV w b xa xb) (hb:b<w.heap.size) (g:G w w'):RatV w' b xa xb:=by
 rcases h with h|⟨h1,h2,h⟩
 ·exact Or.inl (RatIs.G h hb g)
 ·exact Or.inr ⟨h1,h2,RatIs.G h hb g⟩
theorem RatV.num {w:World} {b:Nat} {xa:Int} {xb:Nat} (h:RatV w b xa xb):IntIs w b 0 xa:=by
 rcases h with h|⟨h1,-,h⟩
 ·exact h.1
 ·rw[h1];exact h.1
/-- A lower part: in the Rat itself, or new. -/
def DI (w0 w:World) (p o:Nat) (s:Int):Prop:=(p<w0.heap.size∧IntIs w0 p o s)∨(o=0∧NI w0 w p s)
theorem DI.G {w0 w w':World} {p o:Nat} {s:Int} (h:DI w0 w p o s) (g:Go.Proofs.YtemmkninoiclfaaGreatDoor.G w w'):DI w0 w' p o s:=by
 rcases h with h|⟨h1,h2⟩
 ·exact Or.inl h
 ·exact Or.inr ⟨h1,h2.G g⟩
theorem DI.is {w0 w:World} {p o:Nat} {s:Int} (h:DI w0 w p o s) (g:Go.Proofs.YtemmkninoiclfaaGreatDoor.G w0 w):p<w.heap.size∧IntIs w p o s:=by
 rcases h with ⟨h1,h2⟩|⟨rfl,h2⟩
 ·exact⟨G.lt g h1,IntIs.G h2 h1 g⟩
 ·exact h2.2
theorem DI.keep {w0 w w':World} {p o:Nat} {s:Int} (h:DI w0 w p o s) (k:NI w0 w p s→NI w0 w' p s):DI w0 w' p o s:=by
 rcases h with h|⟨h1,h2⟩
 ·exact Or.inl h
 ·exact Or.inr ⟨h1,k h2⟩
theorem q0J (w0 w:World) (g:G w0 w) (b:Nat) (xa:Int) (xb:Nat) (hxb:0<xb) (hb:b<w0.heap.size) (h:RatV w0 b xa xb):
  Calls Tryz.prog 51 #[.pointer (some ⟨b,0,none⟩)] w fun e w'=>∃ p o,e= .returned (.pointer (some ⟨p,o,none⟩))∧G w w'∧DI w0 w' p o (xb:Int)∧(p<w0.heap.size∨w.heap.size≤p):=by
 rcases h with h|⟨-,h2,h⟩
 ·refine Calls.mono (P:=Tryz.prog) (q4p w b xa xb (by omega) (h.G hb g)) ?_
  rintro e w' ⟨rfl,g'⟩
  exact⟨b,2,rfl,g',Or.inl ⟨hb,h.2⟩,Or.inl hb⟩
 ·refine Calls.mono (P:=Tryz.prog) (qb4 w b xb h2 (h.G hb g)) ?_
  rintro e w' ⟨p,rfl,g',k1,k2,k3⟩
  exact⟨p,0,rfl,g',Or.inr ⟨rfl,Nat.le_trans g.size k1,k2,k3⟩,Or.inr k1⟩
set_option maxRecDepth 10000 in
set_option maxHeartbeats 8000000 in
theorem qbI (w:World) (bz bx b2:Nat) (s1 s2 xa ya:Int) (xb yb:Nat) (KB:Nat) (hK:KB≤100000) (hx2:xa.natAbs<2^(32*KB)) (hy2:ya.natAbs<2^(32*KB)) (fZ:xb<2^(32*KB)) (gK:yb<2^(32*KB)) (hxb:0<xb) (hyb:0<yb)
  (hbz:bz<w.heap.size) (hbx:bx<w.heap.size) (hby:b2<w.heap.size) (hz:RatIs w bz s1 s2) (hx:RatV w bx xa xb) (hy:RatV w b2 ya yb):
  Calls Tryz.prog 12 #[.pointer (some ⟨bz,0,none⟩),.pointer (some ⟨bx,0,none⟩),.pointer (some ⟨b2,0,none⟩)] w (NormTo w bz (Int.tdiv (xa*(yb:Int)+ya*(xb:Int)) (Nat.gcd (xa*(yb:Int)+ya*(xb:Int)).natAbs (xb*yb):Nat)) (xb*yb/Nat.gcd (xa*(yb:Int)+ya*(xb:Int)).natAbs (xb*yb))):=by
 have iR:Hid (xa.natAbs<2^(32*KB)):=hx2
 have kR:Hid (ya.natAbs<2^(32*KB)):=hy2
 have kS:Hid ((xb:Int).natAbs<2^(32*KB)):=by show (xb:Int).natAbs<2^(32*KB);rw[Int.natAbs_natCast];exact fZ
 have iT:Hid ((yb:Int).natAbs<2^(32*KB)):=by show (yb:Int).natAbs<2^(32*KB);rw[Int.natAbs_natCast];exact gK
 have HX0:Hid (IntIs w bx 0 xa):=hx.num
 have qW:Hid (IntIs w b2 0 ya):=hy.num
 have nK:Hid (RatV w bx xa xb):=hx
 have kv:Hid (RatV w b2 ya yb):=hy
 have Fb:Hid (RatIs w bz s1 s2):=hz
 have gL:0<xb:=hxb
 have dK:0<yb:=hyb
 have wE:32*(2*KB)=32*KB+32*KB:=by omega
 have hn1:(xa*(yb:Int)).natAbs<2^(32*(2*KB)):=by
  rw[Int.natAbs_mul,Int.natAbs_natCast,wE,Nat.pow_add]
  exact Nat.mul_lt_mul'' hx2 gK
 have hn2:(ya*(xb:Int)).natAbs<2^(32*(2*KB)):=by
  rw[Int.natAbs_mul,Int.natAbs_natCast,wE,Nat.pow_add]
  exact Nat.mul_lt_mul'' hy2 fZ
 have hd2:xb*yb<2^(32*(2*KB)):=by
  rw[wE,Nat.pow_add]
  exact Nat.mul_lt_mul'' fZ gK
 have hup:2^(32*(2*KB))*2≤2^(32*(2*KB+1)):=by rw[← Nat.pow_succ];exact Nat.pow_le_pow_right (by omega) (by omega)
 have nH:Hid ((xa*(yb:Int)).natAbs<2^(32*(2*KB))):=hn1
 have cu:Hid ((ya*(xb:Int)).natAbs<2^(32*(2*KB))):=hn2
 have TH:Hid ((xa*(yb:Int)+ya*(xb:Int)).natAbs<2^(32*(2*KB+1))):=by
  show (xa*(yb:Int)+ya*(xb:Int)).natAbs<2^(32*(2*KB+1))
  have:=Int.natAbs_add_le (xa*(yb:Int)) (ya*(xb:Int))
  omega
 have HD2:Hid (xb*yb<2^(32*(2*KB+1))):=by show xb*yb<2^(32*(2*KB+1));omega
 have HD0:Hid (0<xb*yb):=Nat.mul_pos hxb hyb
 clear hx hy hz hx2 hy2 fZ gK hxb hyb wE hn1 hn2 hd2 hup
 go_enter Tryz.func12,Tryz.ntmps12
 go_wp2_with fail
 apply share
 ·intro LX
  refine q0K 15 (G w) (by kernel_rfl) (by first|exact(G.refl _).drew|exact G.drew (by assumption)) ?_
  intro bE
  refine q00 2 (v:= ?_) rfl (by kernel_rfl) (fun _ _ _ h=>h) rfl ?_ ‹_› ?_
  rotate_left
  ·intro wq hwq
   first|(go_simp;done)|(go_simp;with_reducible rfl)
  try simp only[aput,List.set]
  refine q00 3 (v:= ?_) rfl (by kernel_rfl) (fun _ _ _ h=>h) rfl ?_ ‹_› ?_
  rotate_left
  ·intro wq hwq
   first|(go_simp;done)|(go_simp;with_reducible rfl)
  try simp only[aput,List.set]
  refine q00 4 (v:= ?_) rfl (by kernel_rfl) (fun _ _ _ h=>h) rfl ?_ ‹_› ?_
  rotate_left
  ·intro wq hwq
   first|(go_simp;done)|(go_simp;with_reducible rfl)
  try simp only[aput,List.set]
  refine q00 5 (v:= ?_) rfl (by kernel_rfl) (fun _ _ _ h=>h) rfl ?_ ‹_› ?_
  rotate_left
  ·intro wq hwq
   first|(go_simp;done)|(go_simp;with_reducible rfl)
  try simp only[aput,List.set]
  refine q00 9 (v:= ?_) rfl (by kernel_rfl) (fun _ _ _ h=>h) rfl ?_ ‹_› ?_
  rotate_left
  ·intro wq hwq
   first|(go_simp;done)|(go_simp;with_reducible rfl)
  try simp only[aput,List.set]
  refine q00 10 (v:= ?_) rfl (by kernel_rfl) (fun _ _ _ h=>h) rfl ?_ ‹_› ?_
  rotate_left
  ·intro wq hwq
   first|(go_simp;done)|(go_simp;with_reducible rfl)
  try simp only[aput,List.set]
  refine q00 11 (v:= ?_) rfl (by kernel_rfl) (fun _ _ _ h=>h) rfl ?_ ‹_› ?_
  rotate_left
  ·intro wq hwq
   first|(go_simp;done)|(go_simp;with_reducible rfl)
  try simp only[aput,List.set]
  refine q00 12 (v:= ?_) rfl (by kernel_rfl) (fun _ _ _ h=>h) rfl ?_ ‹_› ?_
  rotate_left
  ·intro wq hwq
   first|(go_simp;done)|(go_simp;with_reducible rfl)
  try simp only[aput,List.set]
  show q0E _ _ _ _ _ _ _ _ _ w.drew
  have hS5:=bE
  generalize w.drew=w5 at *
  clear bE
  apply share
  intro l6
  apply share
  intro jT
  apply share
  intro lZ
  apply share
  intro pO
  apply share
  intro bX
  apply share
  intro ma
  apply share
  intro uk
  apply share
  intro dO
  apply share
  intro um
  apply share
  intro uo
  apply share
  intro uq
  apply share
  intro gM
  apply share
  intro Fe
  apply share
  intro Ff
  apply share
  intro Fg
  apply share
  intro jU
  apply share
  intro ny
  apply share
  intro nz
  refine q5W (i:=0) (j:=1) (l:=6) (m:=8) (by kernel_rfl) rfl rfl rfl rfl ?_ ?_ ?_ ?_
  ·skip
   intro K hK
   go_simp
   refine hK.out _ _ (Or.inr (hS5.alloc _)) ?_
   clear hK K
   have hn:=NI.new hS5 38
   have hal:=(G.refl w5).alloc (.cells #[.bool false,.slice none 0 0] 38)
   have aO:=G.trans hS5 hal
   generalize w5.heap.size=p0 at *
   generalize w5.alloc (.cells #[.bool false,.slice none 0 0] 38)=w6 at *
   have uS:=hid hn
   clear hn hal
   refine q0H (i:=1) (j:=6) (l:=8) (by kernel_rfl) rfl rfl rfl ?_ ?_ ?_
   ·skip
    intro K hK
    go_simp
    refine hK.out _ _ (Or.inr (aO.alloc _)) ?_
    clear hK K
    have hn:=NI.new aO 38
    have hal:=(G.refl w6).alloc (.cells #[.bool false,.slice none 0 0] 38)
    have aC:=G.trans aO hal
    have gQ:=hid (uS.out.G hal)
    have aG:w6.heap.size≠p0:=by have:=uS.out.2.1;omega
    generalize w6.heap.size=p1 at *
    generalize w6.alloc (.cells #[.bool false,.slice none 0 0] 38)=w7 at *
    have bY:=hid hn
    have ak:Hid (p0≠p1):=aG.symm
    have au:Hid (p1≠p0):=aG
    clear hn hal aO uS aG
    refine q02 (l':=#[true,true,true,true,true,true,false,false,false,true,true,true,true,false,false,false,false]) (by kernel_rfl) ?_
    revert au
    revert ak
    revert bY
    revert gQ
    revert aC
    revert p1
    revert p0
    revert w7
    exact Fe.out
   ·skip
    intro K hK
    go_simp
    go_wp2_with (go_at_call 51;refine Calls.mono (P:=Tryz.prog) (q0J w w6 aO b2 ya yb dK hby kv.out) ?_;intro e w7 hx;obtain⟨p4,o4,rfl,hg,h72,eF⟩:=hx)
    refine hK.out _ _ (Or.inr (G.trans aO hg)) ?_
    clear hK K
    have aC:=G.trans aO hg
    have HD7:=hid h72
    have aG:p4≠p0:=by have h1:=uS.out.1;have h2:=uS.out.2.1;omega
    have gQ:=hid (uS.out.G hg)
    have av:Hid (p4≠p0):=aG
    clear hg h72 eF aO uS aG
    refine q02 (l':=#[true,false,true,true,true,true,true,false,false,true,true,true,true,false,false,false,false]) (by kernel_rfl) ?_
    revert av
    revert HD7
    revert gQ
    revert aC
    revert o4
    revert p4
    revert p0
    revert w7
    exact Fg.out
   ·skip
    intro K hK
    go_simp
    refine hK.out _ _ (Or.inr (aO.alloc _)) ?_
    clear hK K
    have hn:=NI.new aO 38
    have hal:=(G.refl w6).alloc (.cells #[.bool false,.slice none 0 0] 38)
    have aC:=G.trans aO hal
    have gQ:=hid (uS.out.G hal)
    have aG:w6.heap.size≠p0:=by have:=uS.out.2.1;omega
    generalize w6.heap.size=p2 at *
    generalize w6.alloc (.cells #[.bool false,.slice none 0 0] 38)=w7 at *
    have df:=hid hn
    have ay:Hid (p0≠p2):=aG.symm
    have az:Hid (p2≠p0):=aG
    clear hn hal aO uS aG
    refine q02 (l':=#[true,false,true,true,true,true,false,false,true,true,true,true,true,false,false,false,false]) (by kernel_rfl) ?_
    revert az
    revert ay
    revert df
    revert gQ
    revert aC
    revert p2
    revert p0
    revert w7
    exact Ff.out
  ·skip
   intro K hK
   go_simp
   refine hK.out _ _ (Or.inr (hS5.alloc _)) ?_
   clear hK K
   have hn:=NI.new hS5 38
   have hal:=(G.refl w5).alloc (.cells #[.bool false,.slice none 0 0] 38)
   have aO:=G.trans hS5 hal
   generalize w5.heap.size=p1 at *
   generalize w5.alloc (.cells #[.bool false,.slice none 0 0] 38)=w6 at *
   have mD:=hid hn
   clear hn hal
   refine q0H (i:=0) (j:=6) (l:=8) (by kernel_rfl) rfl rfl rfl ?_ ?_ ?_
   ·skip
    intro K hK
    go_simp
    refine hK.out _ _ (Or.inr (aO.alloc _)) ?_
    clear hK K
    have hn:=NI.new aO 38
    have hal:=(G.refl w6).alloc (.cells #[.bool false,.slice none 0 0] 38)
    have aC:=G.trans aO hal
    have bY:=hid (mD.out.G hal)
    have ae:w6.heap.size≠p1:=by have:=mD.out.2.1;omega
    generalize w6.heap.size=p0 at *
    generalize w6.alloc (.cells #[.bool false,.slice none 0 0] 38)=w7 at *
    have gQ:=hid hn
    have au:Hid (p1≠p0):=ae.symm
    have ak:Hid (p0≠p1):=ae
    clear hn hal aO mD ae
    refine q02 (l':=#[true,true,true,true,true,true,false,false,false,true,true,true,true,false,false,false,false]) (by kernel_rfl) ?_
    revert au
    revert ak
    revert bY
    revert gQ
    revert aC
    revert p1
    revert p0
    revert w7
    exact Fe.out
   ·skip
    intro K hK
    go_simp
    go_wp2_with (go_at_call 51;refine Calls.mono (P:=Tryz.prog) (q0J w w6 aO b2 ya yb dK hby kv.out) ?_;intro e w7 hx;obtain⟨p4,o4,rfl,hg,h72,eF⟩:=hx)
    refine hK.out _ _ (Or.inr (G.trans aO hg)) ?_
    clear hK K
    have aC:=G.trans aO hg
    have HD7:=hid h72
    have ae:p4≠p1:=by have h1:=mD.out.1;have h2:=mD.out.2.1;omega
    have bY:=hid (mD.out.G hg)
    have aa:Hid (p4≠p1):=ae
    clear hg h72 eF aO mD ae
    refine q02 (l':=#[false,true,true,true,true,true,true,false,false,true,true,true,true,false,false,false,false]) (by kernel_rfl) ?_
    revert aa
    revert HD7
    revert bY
    revert aC
    revert o4
    revert p4
    revert p1
    revert w7
    exact ny.out
   ·skip
    intro K hK
    go_simp
    refine hK.out _ _ (Or.inr (aO.alloc _)) ?_
    clear hK K
    have hn:=NI.new aO 38
    have hal:=(G.refl w6).alloc (.cells #[.bool false,.slice none 0 0] 38)
    have aC:=G.trans aO hal
    have bY:=hid (mD.out.G hal)
    have ae:w6.heap.size≠p1:=by have:=mD.out.2.1;omega
    generalize w6.heap.size=p2 at *
    generalize w6.alloc (.cells #[.bool false,.slice none 0 0] 38)=w7 at *
    have df:=hid hn
    have af:Hid (p1≠p2):=ae.symm
    have ag:Hid (p2≠p1):=ae
    clear hn hal aO mD ae
    refine q02 (l':=#[false,true,true,true,true,true,false,false,true,true,true,true,true,false,false,false,false]) (by kernel_rfl) ?_
    revert af
    revert ag
    revert df
    revert bY
    revert aC
    revert p2
    revert p1
    revert w7
    exact jU.out
  ·skip
   intro K hK
   go_simp
   go_wp2_with (go_at_call 51;refine Calls.mono (P:=Tryz.prog) (q0J w w5 hS5 b2 ya yb dK hby kv.out) ?_;intro e w6 hx;obtain⟨p4,o4,rfl,hg,h72,eF⟩:=hx)
   refine hK.out _ _ (Or.inr (G.trans hS5 hg)) ?_
   clear hK K
   have aO:=G.trans hS5 hg
   have HD6:=hid h72
   clear hg h72 eF
   refine q0H (i:=0) (j:=1) (l:=8) (by kernel_rfl) rfl rfl rfl ?_ ?_ ?_
   ·skip
    intro K hK
    go_simp
    refine hK.out _ _ (Or.inr (aO.alloc _)) ?_
    clear hK K
    have hn:=NI.new aO 38
    have hal:=(G.refl w6).alloc (.cells #[.bool false,.slice none 0 0] 38)
    have aC:=G.trans aO hal
    have HD7:=hid (HD6.out.G hal)
    have aj:w6.heap.size≠p4:=by have:=(HD6.out.is aO).1;omega
    generalize w6.heap.size=p0 at *
    generalize w6.alloc (.cells #[.bool false,.slice none 0 0] 38)=w7 at *
    have gQ:=hid hn
    have av:Hid (p4≠p0):=aj.symm
    clear hn hal aO HD6 aj
    refine q02 (l':=#[true,false,true,true,true,true,true,false,false,true,true,true,true,false,false,false,false]) (by kernel_rfl) ?_
    revert av
    revert HD7
    revert gQ
    revert aC
    revert o4
    revert p4
    revert p0
    revert w7
    exact Fg.out
   ·skip
    intro K hK
    go_simp
    refine hK.out _ _ (Or.inr (aO.alloc _)) ?_
    clear hK K
    have hn:=NI.new aO 38
    have hal:=(G.refl w6).alloc (.cells #[.bool false,.slice none 0 0] 38)
    have aC:=G.trans aO hal
    have HD7:=hid (HD6.out.G hal)
    have aj:w6.heap.size≠p4:=by have:=(HD6.out.is aO).1;omega
    generalize w6.heap.size=p1 at *
    generalize w6.alloc (.cells #[.bool false,.slice none 0 0] 38)=w7 at *
    have bY:=hid hn
    have aa:Hid (p4≠p1):=aj.symm
    clear hn hal aO HD6 aj
    refine q02 (l':=#[false,true,true,true,true,true,true,false,false,true,true,true,true,false,false,false,false]) (by kernel_rfl) ?_
    revert aa
    revert HD7
    revert bY
    revert aC
    revert o4
    revert p4
    revert p1
    revert w7
    exact ny.out
   ·skip
    intro K hK
    go_simp
    refine hK.out _ _ (Or.inr (aO.alloc _)) ?_
    clear hK K
    have hn:=NI.new aO 38
    have hal:=(G.refl w6).alloc (.cells #[.bool false,.slice none 0 0] 38)
    have aC:=G.trans aO hal
    have HD7:=hid (HD6.out.G hal)
    have aj:w6.heap.size≠p4:=by have:=(HD6.out.is aO).1;omega
    generalize w6.heap.size=p2 at *
    generalize w6.alloc (.cells #[.bool false,.slice none 0 0] 38)=w7 at *
    have df:=hid hn
    have ah:Hid (p4≠p2):=aj.symm
    clear hn hal aO HD6 aj
    refine q02 (l':=#[false,false,true,true,true,true,true,false,true,true,true,true,true,false,false,false,false]) (by kernel_rfl) ?_
    revert ah
    revert df
    revert HD7
    revert aC
    revert p2
    revert o4
    revert p4
    revert w7
    exact nz.out
  ·skip
   intro K hK
   go_simp
   refine hK.out _ _ (Or.inr (hS5.alloc _)) ?_
   clear hK K
   have hn:=NI.new hS5 38
   have hal:=(G.refl w5).alloc (.cells #[.bool false,.slice none 0 0] 38)
   have aO:=G.trans hS5 hal
   generalize w5.heap.size=p2 at *
   generalize w5.alloc (.cells #[.bool false,.slice none 0 0] 38)=w6 at *
   have mE:=hid hn
   clear hn hal
   refine q0H (i:=0) (j:=1) (l:=6) (by kernel_rfl) rfl rfl rfl ?_ ?_ ?_
   ·skip
    intro K hK
    go_simp
    refine hK.out _ _ (Or.inr (aO.alloc _)) ?_
    clear hK K
    have hn:=NI.new aO 38
    have hal:=(G.refl w6).alloc (.cells #[.bool false,.slice none 0 0] 38)
    have aC:=G.trans aO hal
    have df:=hid (mE.out.G hal)
    have ax:w6.heap.size≠p2:=by have:=mE.out.2.1;omega
    generalize w6.heap.size=p0 at *
    generalize w6.alloc (.cells #[.bool false,.slice none 0 0] 38)=w7 at *
    have gQ:=hid hn
    have az:Hid (p2≠p0):=ax.symm
    have ay:Hid (p0≠p2):=ax
    clear hn hal aO mE ax
    refine q02 (l':=#[true,false,true,true,true,true,false,false,true,true,true,true,true,false,false,false,false]) (by kernel_rfl) ?_
    revert az
    revert ay
    revert df
    revert gQ
    revert aC
    revert p2
    revert p0
    revert w7
    exact Ff.out
   ·skip
    intro K hK
    go_simp
    refine hK.out _ _ (Or.inr (aO.alloc _)) ?_
    clear hK K
    have hn:=NI.new aO 38
    have hal:=(G.refl w6).alloc (.cells #[.bool false,.slice none 0 0] 38)
    have aC:=G.trans aO hal
    have df:=hid (mE.out.G hal)
    have ax:w6.heap.size≠p2:=by have:=mE.out.2.1;omega
    generalize w6.heap.size=p1 at *
    generalize w6.alloc (.cells #[.bool false,.slice none 0 0] 38)=w7 at *
    have bY:=hid hn
    have ag:Hid (p2≠p1):=ax.symm
    have af:Hid (p1≠p2):=ax
    clear hn hal aO mE ax
    refine q02 (l':=#[false,true,true,true,true,true,false,false,true,true,true,true,true,false,false,false,false]) (by kernel_rfl) ?_
    revert af
    revert ag
    revert df
    revert bY
    revert aC
    revert p2
    revert p1
    revert w7
    exact jU.out
   ·skip
    intro K hK
    go_simp
    go_wp2_with (go_at_call 51;refine Calls.mono (P:=Tryz.prog) (q0J w w6 aO b2 ya yb dK hby kv.out) ?_;intro e w7 hx;obtain⟨p4,o4,rfl,hg,h72,eF⟩:=hx)
    refine hK.out _ _ (Or.inr (G.trans aO hg)) ?_
    clear hK K
    have aC:=G.trans aO hg
    have HD7:=hid h72
    have ax:p4≠p2:=by have h1:=mE.out.1;have h2:=mE.out.2.1;omega
    have df:=hid (mE.out.G hg)
    have ah:Hid (p4≠p2):=ax
    clear hg h72 eF aO mE ax
    refine q02 (l':=#[false,false,true,true,true,true,true,false,true,true,true,true,true,false,false,false,false]) (by kernel_rfl) ?_
    revert ah
    revert df
    revert HD7
    revert aC
    revert p2
    revert o4
    revert p4
    revert w7
    exact nz.out
  refine Later.mk ?_
  intro w7 p4 o4 p2 aC HD7 df ah
  refine q0c (i:=0) (j:=1) (by kernel_rfl) rfl rfl ?_ ?_
  ·skip
   intro K hK
   go_simp
   refine hK.out _ _ (Or.inr (aC.alloc _)) ?_
   clear hK K
   have hn:=NI.new aC 38
   have hal:=(G.refl w7).alloc (.cells #[.bool false,.slice none 0 0] 38)
   have aI:=G.trans aC hal
   have aZ:=hid (HD7.out.G hal)
   have eU:=hid (df.out.G hal)
   have aj:w7.heap.size≠p4:=by have:=(HD7.out.is aC).1;omega
   have ax:w7.heap.size≠p2:=by have:=df.out.2.1;omega
   generalize w7.heap.size=p0 at *
   generalize w7.alloc (.cells #[.bool false,.slice none 0 0] 38)=w8 at *
   have il:=hid hn
   have av:Hid (p4≠p0):=aj.symm
   have az:Hid (p2≠p0):=ax.symm
   have ay:Hid (p0≠p2):=ax
   clear hn hal aC HD7 df aj ax
   refine q02 (l':=#[true,false,true,true,true,true,true,false,true,true,true,true,true,false,false,false,false]) (by kernel_rfl) ?_
   revert az
   revert av
   revert ah
   revert ay
   revert eU
   revert aZ
   revert il
   revert aI
   revert p2
   revert o4
   revert p4
   revert p0
   revert w8
   exact uq.out
  ·skip
   intro K hK
   go_simp
   refine hK.out _ _ (Or.inr (aC.alloc _)) ?_
   clear hK K
   have hn:=NI.new aC 38
   have hal:=(G.refl w7).alloc (.cells #[.bool false,.slice none 0 0] 38)
   have aI:=G.trans aC hal
   have aZ:=hid (HD7.out.G hal)
   have eU:=hid (df.out.G hal)
   have aj:w7.heap.size≠p4:=by have:=(HD7.out.is aC).1;omega
   have ax:w7.heap.size≠p2:=by have:=df.out.2.1;omega
   generalize w7.heap.size=p1 at *
   generalize w7.alloc (.cells #[.bool false,.slice none 0 0] 38)=w8 at *
   have bD:=hid hn
   have aa:Hid (p4≠p1):=aj.symm
   have ag:Hid (p2≠p1):=ax.symm
   have af:Hid (p1≠p2):=ax
   clear hn hal aC HD7 df aj ax
   refine q02 (l':=#[false,true,true,true,true,true,true,false,true,true,true,true,true,false,false,false,false]) (by kernel_rfl) ?_
   revert ah
   revert af
   revert ag
   revert aa
   revert eU
   revert aZ
   revert bD
   revert aI
   revert p2
   revert o4
   revert p4
   revert p1
   revert w8
   exact gM.out
  refine Later.mk ?_
  intro w7 p1 p4 o4 aC bY HD7 aa
  refine q0H (i:=0) (j:=7) (l:=8) (by kernel_rfl) rfl rfl rfl ?_ ?_ ?_
  ·skip
   intro K hK
   go_simp
   refine hK.out _ _ (Or.inr (aC.alloc _)) ?_
   clear hK K
   have hn:=NI.new aC 38
   have hal:=(G.refl w7).alloc (.cells #[.bool false,.slice none 0 0] 38)
   have aI:=G.trans aC hal
   have bD:=hid (bY.out.G hal)
   have aZ:=hid (HD7.out.G hal)
   have ae:w7.heap.size≠p1:=by have:=bY.out.2.1;omega
   have aj:w7.heap.size≠p4:=by have:=(HD7.out.is aC).1;omega
   generalize w7.heap.size=p0 at *
   generalize w7.alloc (.cells #[.bool false,.slice none 0 0] 38)=w8 at *
   have il:=hid hn
   have au:Hid (p1≠p0):=ae.symm
   have ak:Hid (p0≠p1):=ae
   have av:Hid (p4≠p0):=aj.symm
   clear hn hal aC bY HD7 ae aj
   refine q02 (l':=#[true,true,true,true,true,true,true,false,false,true,true,true,true,false,false,false,false]) (by kernel_rfl) ?_
   revert av
   revert au
   revert aa
   revert ak
   revert aZ
   revert bD
   revert il
   revert aI
   revert o4
   revert p4
   revert p1
   revert p0
   revert w8
   exact uo.out
  ·skip
   intro K hK
   go_simp
   have dP:Hid _:=q1o w7 p1 0 bx 0 p4 o4 0 xa yb KB (by omega) iR.out iT.out bY.out.2.1 (G.lt aC hbx) (HD7.out.is aC).1 bY.out.2.2 (IntIs.G HX0.out hbx aC) (HD7.out.is aC).2
   go_wp2_with (go_at_call 50;refine Calls.mono (P:=Tryz.prog) dP.out ?_;intro e w8 hx;obtain⟨rfl,aI,hl,-,hkp⟩:=SetTo.step aC bY.out hx)
   have bD:=hid hl
   have aZ:=hid (DI.keep HD7.out (hkp _ _ aa.out))
   refine hK.out _ _ (Or.inr aI) ?_
   clear hK K hx hl hkp dP aC bY HD7
   refine q0H (i:=0) (j:=8) (l:=13) (by kernel_rfl) rfl rfl rfl ?_ ?_ ?_
   ·skip
    intro K hK
    go_simp
    refine hK.out _ _ (Or.inr (aI.alloc _)) ?_
    clear hK K
    have hn:=NI.new aI 38
    have hal:=(G.refl w8).alloc (.cells #[.bool false,.slice none 0 0] 38)
    have aQ:=G.trans aI hal
    have cB:=hid (bD.out.G hal)
    have bC:=hid (aZ.out.G hal)
    have ae:w8.heap.size≠p1:=by have:=bD.out.2.1;omega
    have aj:w8.heap.size≠p4:=by have:=(aZ.out.is aI).1;omega
    generalize w8.heap.size=p0 at *
    generalize w8.alloc (.cells #[.bool false,.slice none 0 0] 38)=w9 at *
    have kz:=hid hn
    have au:Hid (p1≠p0):=ae.symm
    have ak:Hid (p0≠p1):=ae
    have av:Hid (p4≠p0):=aj.symm
    clear hn hal aI bD aZ ae aj
    refine q02 (l':=#[true,true,true,true,true,true,true,true,false,true,true,true,true,false,false,false,false]) (by kernel_rfl) ?_
    revert av
    revert au
    revert aa
    revert ak
    revert bC
    revert cB
    revert kz
    revert aQ
    revert o4
    revert p4
    revert p1
    revert p0
    revert w9
    exact uk.out
   ·skip
    intro K hK
    go_simp
    refine hK.out _ _ (Or.inr (aI.alloc _)) ?_
    clear hK K
    have hn:=NI.new aI 38
    have hal:=(G.refl w8).alloc (.cells #[.bool false,.slice none 0 0] 38)
    have aQ:=G.trans aI hal
    have cB:=hid (bD.out.G hal)
    have bC:=hid (aZ.out.G hal)
    have ae:w8.heap.size≠p1:=by have:=bD.out.2.1;omega
    have aj:w8.heap.size≠p4:=by have:=(aZ.out.is aI).1;omega
    generalize w8.heap.size=p2 at *
    generalize w8.alloc (.cells #[.bool false,.slice none 0 0] 38)=w9 at *
    have iL:=hid hn
    have af:Hid (p1≠p2):=ae.symm
    have ag:Hid (p2≠p1):=ae
    have ah:Hid (p4≠p2):=aj.symm
    clear hn hal aI bD aZ ae aj
    refine q02 (l':=#[false,true,true,true,true,true,true,true,true,true,true,true,true,false,false,false,false]) (by kernel_rfl) ?_
    revert ah
    revert af
    revert ag
    revert aa
    revert iL
    revert bC
    revert cB
    revert aQ
    revert p2
    revert o4
    revert p4
    revert p1
    revert w9
    exact dO.out
   ·skip
    intro K hK
    go_simp
    go_wp2_with (go_at_call 51;refine Calls.mono (P:=Tryz.prog) (q0J w w8 aI bx xa xb gL hbx nK.out) ?_;intro e w9 hx;obtain⟨p3,o3,rfl,hg,h72,eF⟩:=hx)
    refine hK.out _ _ (Or.inr (G.trans aI hg)) ?_
    clear hK K
    have aQ:=G.trans aI hg
    have pQ:=hid h72
    have ae:p3≠p1:=by have h1:=bD.out.1;have h2:=bD.out.2.1;omega
    have cB:=hid (bD.out.G hg)
    have bC:=hid (aZ.out.G hg)
    have aJ:Hid (p3≠p1):=ae
    clear hg h72 eF aI bD aZ ae
    refine q0c (i:=0) (j:=8) (by kernel_rfl) rfl rfl ?_ ?_
    ·skip
     intro K hK
     go_simp
     refine hK.out _ _ (Or.inr (aQ.alloc _)) ?_
     clear hK K
     have hn:=NI.new aQ 38
     have hal:=(G.refl w9).alloc (.cells #[.bool false,.slice none 0 0] 38)
     have aH:=G.trans aQ hal
     have aX:=hid (cB.out.G hal)
     have aV:=hid (bC.out.G hal)
     have bg:=hid (pQ.out.G hal)
     have ae:w9.heap.size≠p1:=by have:=cB.out.2.1;omega
     have aj:w9.heap.size≠p4:=by have:=(bC.out.is aQ).1;omega
     have bN:w9.heap.size≠p3:=by have:=(pQ.out.is aQ).1;omega
     generalize w9.heap.size=p0 at *
     generalize w9.alloc (.cells #[.bool false,.slice none 0 0] 38)=aU at *
     have dR:=hid hn
     have au:Hid (p1≠p0):=ae.symm
     have ak:Hid (p0≠p1):=ae
     have av:Hid (p4≠p0):=aj.symm
     have aS:Hid (p3≠p0):=bN.symm
     clear hn hal aQ cB bC pQ ae aj bN
     refine q02 (l':=#[true,true,true,true,true,true,true,true,false,true,true,true,true,true,false,false,false]) (by kernel_rfl) ?_
     revert aS
     revert av
     revert au
     revert aJ
     revert aa
     revert ak
     revert bg
     revert aV
     revert aX
     revert dR
     revert aH
     revert o3
     revert p3
     revert o4
     revert p4
     revert p1
     revert p0
     revert aU
     exact pO.out
    ·skip
     intro K hK
     go_simp
     refine hK.out _ _ (Or.inr (aQ.alloc _)) ?_
     clear hK K
     have hn:=NI.new aQ 38
     have hal:=(G.refl w9).alloc (.cells #[.bool false,.slice none 0 0] 38)
     have aH:=G.trans aQ hal
     have aX:=hid (cB.out.G hal)
     have aV:=hid (bC.out.G hal)
     have bg:=hid (pQ.out.G hal)
     have ae:w9.heap.size≠p1:=by have:=cB.out.2.1;omega
     have aj:w9.heap.size≠p4:=by have:=(bC.out.is aQ).1;omega
     have bN:w9.heap.size≠p3:=by have:=(pQ.out.is aQ).1;omega
     generalize w9.heap.size=p2 at *
     generalize w9.alloc (.cells #[.bool false,.slice none 0 0] 38)=aU at *
     have bn:=hid hn
     have af:Hid (p1≠p2):=ae.symm
     have ag:Hid (p2≠p1):=ae
     have ah:Hid (p4≠p2):=aj.symm
     have aK:Hid (p3≠p2):=bN.symm
     clear hn hal aQ cB bC pQ ae aj bN
     refine q02 (l':=#[false,true,true,true,true,true,true,true,true,true,true,true,true,true,false,false,false]) (by kernel_rfl) ?_
     revert aK
     revert ah
     revert af
     revert aJ
     revert ag
     revert aa
     revert bg
     revert bn
     revert aV
     revert aX
     revert aH
     revert o3
     revert p3
     revert p2
     revert o4
     revert p4
     revert p1
     revert aU
     exact bX.out
  ·skip
   intro K hK
   go_simp
   refine hK.out _ _ (Or.inr (aC.alloc _)) ?_
   clear hK K
   have hn:=NI.new aC 38
   have hal:=(G.refl w7).alloc (.cells #[.bool false,.slice none 0 0] 38)
   have aI:=G.trans aC hal
   have bD:=hid (bY.out.G hal)
   have aZ:=hid (HD7.out.G hal)
   have ae:w7.heap.size≠p1:=by have:=bY.out.2.1;omega
   have aj:w7.heap.size≠p4:=by have:=(HD7.out.is aC).1;omega
   generalize w7.heap.size=p2 at *
   generalize w7.alloc (.cells #[.bool false,.slice none 0 0] 38)=w8 at *
   have eU:=hid hn
   have af:Hid (p1≠p2):=ae.symm
   have ag:Hid (p2≠p1):=ae
   have ah:Hid (p4≠p2):=aj.symm
   clear hn hal aC bY HD7 ae aj
   refine q02 (l':=#[false,true,true,true,true,true,true,false,true,true,true,true,true,false,false,false,false]) (by kernel_rfl) ?_
   revert ah
   revert af
   revert ag
   revert aa
   revert eU
   revert aZ
   revert bD
   revert aI
   revert p2
   revert o4
   revert p4
   revert p1
   revert w8
   exact gM.out
  refine Later.mk ?_
  intro w7 p1 p2 aC bY df ag af
  refine q0c (i:=0) (j:=6) (by kernel_rfl) rfl rfl ?_ ?_
  ·skip
   intro K hK
   go_simp
   refine hK.out _ _ (Or.inr (aC.alloc _)) ?_
   clear hK K
   have hn:=NI.new aC 38
   have hal:=(G.refl w7).alloc (.cells #[.bool false,.slice none 0 0] 38)
   have aI:=G.trans aC hal
   have bD:=hid (bY.out.G hal)
   have eU:=hid (df.out.G hal)
   have ae:w7.heap.size≠p1:=by have:=bY.out.2.1;omega
   have ax:w7.heap.size≠p2:=by have:=df.out.2.1;omega
   generalize w7.heap.size=p0 at *
   generalize w7.alloc (.cells #[.bool false,.slice none 0 0] 38)=w8 at *
   have il:=hid hn
   have au:Hid (p1≠p0):=ae.symm
   have ak:Hid (p0≠p1):=ae
   have az:Hid (p2≠p0):=ax.symm
   have ay:Hid (p0≠p2):=ax
   clear hn hal aC bY df ae ax
   refine q02 (l':=#[true,true,true,true,true,true,false,false,true,true,true,true,true,false,false,false,false]) (by kernel_rfl) ?_
   revert az
   revert au
   revert af
   revert ay
   revert ag
   revert ak
   revert eU
   revert bD
   revert il
   revert aI
   revert p2
   revert p1
   revert p0
   revert w8
   exact um.out
  ·skip
   intro K hK
   go_simp
   go_wp2_with (go_at_call 51;refine Calls.mono (P:=Tryz.prog) (q0J w w7 aC b2 ya yb dK hby kv.out) ?_;intro e w8 hx;obtain⟨p4,o4,rfl,hg,h72,eF⟩:=hx)
   refine hK.out _ _ (Or.inr (G.trans aC hg)) ?_
   clear hK K
   have aI:=G.trans aC hg
   have aZ:=hid h72
   have ae:p4≠p1:=by have h1:=bY.out.1;have h2:=bY.out.2.1;omega
   have ax:p4≠p2:=by have h1:=df.out.1;have h2:=df.out.2.1;omega
   have bD:=hid (bY.out.G hg)
   have eU:=hid (df.out.G hg)
   have aa:Hid (p4≠p1):=ae
   have ah:Hid (p4≠p2):=ax
   clear hg h72 eF aC bY df ae ax
   refine q02 (l':=#[false,true,true,true,true,true,true,false,true,true,true,true,true,false,false,false,false]) (by kernel_rfl) ?_
   revert ah
   revert af
   revert ag
   revert aa
   revert eU
   revert aZ
   revert bD
   revert aI
   revert p2
   revert o4
   revert p4
   revert p1
   revert w8
   exact gM.out
  refine Later.mk ?_
  intro w7 p0 p4 o4 aC gQ HD7 av
  refine q0c (i:=1) (j:=8) (by kernel_rfl) rfl rfl ?_ ?_
  ·skip
   intro K hK
   go_simp
   refine hK.out _ _ (Or.inr (aC.alloc _)) ?_
   clear hK K
   have hn:=NI.new aC 38
   have hal:=(G.refl w7).alloc (.cells #[.bool false,.slice none 0 0] 38)
   have aI:=G.trans aC hal
   have il:=hid (gQ.out.G hal)
   have aZ:=hid (HD7.out.G hal)
   have aG:w7.heap.size≠p0:=by have:=gQ.out.2.1;omega
   have aj:w7.heap.size≠p4:=by have:=(HD7.out.is aC).1;omega
   generalize w7.heap.size=p1 at *
   generalize w7.alloc (.cells #[.bool false,.slice none 0 0] 38)=w8 at *
   have bD:=hid hn
   have ak:Hid (p0≠p1):=aG.symm
   have au:Hid (p1≠p0):=aG
   have aa:Hid (p4≠p1):=aj.symm
   clear hn hal aC gQ HD7 aG aj
   refine q02 (l':=#[true,true,true,true,true,true,true,false,false,true,true,true,true,false,false,false,false]) (by kernel_rfl) ?_
   revert av
   revert au
   revert aa
   revert ak
   revert aZ
   revert bD
   revert il
   revert aI
   revert o4
   revert p4
   revert p1
   revert p0
   revert w8
   exact uo.out
  ·skip
   intro K hK
   go_simp
   refine hK.out _ _ (Or.inr (aC.alloc _)) ?_
   clear hK K
   have hn:=NI.new aC 38
   have hal:=(G.refl w7).alloc (.cells #[.bool false,.slice none 0 0] 38)
   have aI:=G.trans aC hal
   have il:=hid (gQ.out.G hal)
   have aZ:=hid (HD7.out.G hal)
   have aG:w7.heap.size≠p0:=by have:=gQ.out.2.1;omega
   have aj:w7.heap.size≠p4:=by have:=(HD7.out.is aC).1;omega
   generalize w7.heap.size=p2 at *
   generalize w7.alloc (.cells #[.bool false,.slice none 0 0] 38)=w8 at *
   have eU:=hid hn
   have ay:Hid (p0≠p2):=aG.symm
   have az:Hid (p2≠p0):=aG
   have ah:Hid (p4≠p2):=aj.symm
   clear hn hal aC gQ HD7 aG aj
   refine q02 (l':=#[true,false,true,true,true,true,true,false,true,true,true,true,true,false,false,false,false]) (by kernel_rfl) ?_
   revert az
   revert av
   revert ah
   revert ay
   revert eU
   revert aZ
   revert il
   revert aI
   revert p2
   revert o4
   revert p4
   revert p0
   revert w8
   exact uq.out
  refine Later.mk ?_
  intro w7 p0 p2 aC gQ df ay az
  refine q0c (i:=1) (j:=6) (by kernel_rfl) rfl rfl ?_ ?_
  ·skip
   intro K hK
   go_simp
   refine hK.out _ _ (Or.inr (aC.alloc _)) ?_
   clear hK K
   have hn:=NI.new aC 38
   have hal:=(G.refl w7).alloc (.cells #[.bool false,.slice none 0 0] 38)
   have aI:=G.trans aC hal
   have il:=hid (gQ.out.G hal)
   have eU:=hid (df.out.G hal)
   have aG:w7.heap.size≠p0:=by have:=gQ.out.2.1;omega
   have ax:w7.heap.size≠p2:=by have:=df.out.2.1;omega
   generalize w7.heap.size=p1 at *
   generalize w7.alloc (.cells #[.bool false,.slice none 0 0] 38)=w8 at *
   have bD:=hid hn
   have ak:Hid (p0≠p1):=aG.symm
   have au:Hid (p1≠p0):=aG
   have ag:Hid (p2≠p1):=ax.symm
   have af:Hid (p1≠p2):=ax
   clear hn hal aC gQ df aG ax
   refine q02 (l':=#[true,true,true,true,true,true,false,false,true,true,true,true,true,false,false,false,false]) (by kernel_rfl) ?_
   revert az
   revert au
   revert af
   revert ay
   revert ag
   revert ak
   revert eU
   revert bD
   revert il
   revert aI
   revert p2
   revert p1
   revert p0
   revert w8
   exact um.out
  ·skip
   intro K hK
   go_simp
   go_wp2_with (go_at_call 51;refine Calls.mono (P:=Tryz.prog) (q0J w w7 aC b2 ya yb dK hby kv.out) ?_;intro e w8 hx;obtain⟨p4,o4,rfl,hg,h72,eF⟩:=hx)
   refine hK.out _ _ (Or.inr (G.trans aC hg)) ?_
   clear hK K
   have aI:=G.trans aC hg
   have aZ:=hid h72
   have aG:p4≠p0:=by have h1:=gQ.out.1;have h2:=gQ.out.2.1;omega
   have ax:p4≠p2:=by have h1:=df.out.1;have h2:=df.out.2.1;omega
   have il:=hid (gQ.out.G hg)
   have eU:=hid (df.out.G hg)
   have av:Hid (p4≠p0):=aG
   have ah:Hid (p4≠p2):=ax
   clear hg h72 eF aC gQ df aG ax
   refine q02 (l':=#[true,false,true,true,true,true,true,false,true,true,true,true,true,false,false,false,false]) (by kernel_rfl) ?_
   revert az
   revert av
   revert ah
   revert ay
   revert eU
   revert aZ
   revert il
   revert aI
   revert p2
   revert o4
   revert p4
   revert p0
   revert w8
   exact uq.out
  refine Later.mk ?_
  intro w7 p0 p1 aC gQ bY ak au
  refine q0c (i:=6) (j:=8) (by kernel_rfl) rfl rfl ?_ ?_
  ·skip
   intro K hK
   go_simp
   go_wp2_with (go_at_call 51;refine Calls.mono (P:=Tryz.prog) (q0J w w7 aC b2 ya yb dK hby kv.out) ?_;intro e w8 hx;obtain⟨p4,o4,rfl,hg,h72,eF⟩:=hx)
   refine hK.out _ _ (Or.inr (G.trans aC hg)) ?_
   clear hK K
   have aI:=G.trans aC hg
   have aZ:=hid h72
   have aG:p4≠p0:=by have h1:=gQ.out.1;have h2:=gQ.out.2.1;omega
   have ae:p4≠p1:=by have h1:=bY.out.1;have h2:=bY.out.2.1;omega
   have il:=hid (gQ.out.G hg)
   have bD:=hid (bY.out.G hg)
   have av:Hid (p4≠p0):=aG
   have aa:Hid (p4≠p1):=ae
   clear hg h72 eF aC gQ bY aG ae
   refine q02 (l':=#[true,true,true,true,true,true,true,false,false,true,true,true,true,false,false,false,false]) (by kernel_rfl) ?_
   revert av
   revert au
   revert aa
   revert ak
   revert aZ
   revert bD
   revert il
   revert aI
   revert o4
   revert p4
   revert p1
   revert p0
   revert w8
   exact uo.out
  ·skip
   intro K hK
   go_simp
   refine hK.out _ _ (Or.inr (aC.alloc _)) ?_
   clear hK K
   have hn:=NI.new aC 38
   have hal:=(G.refl w7).alloc (.cells #[.bool false,.slice none 0 0] 38)
   have aI:=G.trans aC hal
   have il:=hid (gQ.out.G hal)
   have bD:=hid (bY.out.G hal)
   have aG:w7.heap.size≠p0:=by have:=gQ.out.2.1;omega
   have ae:w7.heap.size≠p1:=by have:=bY.out.2.1;omega
   generalize w7.heap.size=p2 at *
   generalize w7.alloc (.cells #[.bool false,.slice none 0 0] 38)=w8 at *
   have eU:=hid hn
   have ay:Hid (p0≠p2):=aG.symm
   have az:Hid (p2≠p0):=aG
   have af:Hid (p1≠p2):=ae.symm
   have ag:Hid (p2≠p1):=ae
   clear hn hal aC gQ bY aG ae
   refine q02 (l':=#[true,true,true,true,true,true,false,false,true,true,true,true,true,false,false,false,false]) (by kernel_rfl) ?_
   revert az
   revert au
   revert af
   revert ay
   revert ag
   revert ak
   revert eU
   revert bD
   revert il
   revert aI
   revert p2
   revert p1
   revert p0
   revert w8
   exact um.out
  refine Later.mk ?_
  intro w8 p1 p4 o4 p2 aI bD aZ eU aa ag af ah
  refine q0c (i:=0) (j:=7) (by kernel_rfl) rfl rfl ?_ ?_
  ·skip
   intro K hK
   go_simp
   refine hK.out _ _ (Or.inr (aI.alloc _)) ?_
   clear hK K
   have hn:=NI.new aI 38
   have hal:=(G.refl w8).alloc (.cells #[.bool false,.slice none 0 0] 38)
   have aQ:=G.trans aI hal
   have cB:=hid (bD.out.G hal)
   have bC:=hid (aZ.out.G hal)
   have iL:=hid (eU.out.G hal)
   have ae:w8.heap.size≠p1:=by have:=bD.out.2.1;omega
   have aj:w8.heap.size≠p4:=by have:=(aZ.out.is aI).1;omega
   have ax:w8.heap.size≠p2:=by have:=eU.out.2.1;omega
   generalize w8.heap.size=p0 at *
   generalize w8.alloc (.cells #[.bool false,.slice none 0 0] 38)=w9 at *
   have kz:=hid hn
   have au:Hid (p1≠p0):=ae.symm
   have ak:Hid (p0≠p1):=ae
   have av:Hid (p4≠p0):=aj.symm
   have az:Hid (p2≠p0):=ax.symm
   have ay:Hid (p0≠p2):=ax
   clear hn hal aI bD aZ eU ae aj ax
   refine q02 (l':=#[true,true,true,true,true,true,true,false,true,true,true,true,true,false,false,false,false]) (by kernel_rfl) ?_
   revert az
   revert av
   revert au
   revert ah
   revert af
   revert ay
   revert ag
   revert aa
   revert ak
   revert iL
   revert bC
   revert cB
   revert kz
   revert aQ
   revert p2
   revert o4
   revert p4
   revert p1
   revert p0
   revert w9
   exact ma.out
  ·skip
   intro K hK
   go_simp
   have dP:Hid _:=q1o w8 p1 0 bx 0 p4 o4 0 xa yb KB (by omega) iR.out iT.out bD.out.2.1 (G.lt aI hbx) (aZ.out.is aI).1 bD.out.2.2 (IntIs.G HX0.out hbx aI) (aZ.out.is aI).2
   go_wp2_with (go_at_call 50;refine Calls.mono (P:=Tryz.prog) dP.out ?_;intro e w9 hx;obtain⟨rfl,aQ,hl,-,hkp⟩:=SetTo.step aI bD.out hx)
   have cB:=hid hl
   have bC:=hid (DI.keep aZ.out (hkp _ _ aa.out))
   have iL:=hid (hkp _ _ ag.out eU.out)
   refine hK.out _ _ (Or.inr aQ) ?_
   clear hK K hx hl hkp dP aI bD aZ eU
   refine q02 (l':=#[false,true,true,true,true,true,true,true,true,true,true,true,true,false,false,false,false]) (by kernel_rfl) ?_
   revert ah
   revert af
   revert ag
   revert aa
   revert iL
   revert bC
   revert cB
   revert aQ
   revert p2
   revert o4
   revert p4
   revert p1
   revert w9
   exact dO.out
  refine Later.mk ?_
  intro w8 p0 p4 o4 p2 aI il aZ eU ay ah av az
  refine q03 (i:=1) (by kernel_rfl) rfl ?_
  intro K hK
  go_simp
  refine hK.out _ _ (Or.inr (aI.alloc _)) ?_
  clear hK K
  have hn:=NI.new aI 38
  have hal:=(G.refl w8).alloc (.cells #[.bool false,.slice none 0 0] 38)
  have aQ:=G.trans aI hal
  have kz:=hid (il.out.G hal)
  have bC:=hid (aZ.out.G hal)
  have iL:=hid (eU.out.G hal)
  have aG:w8.heap.size≠p0:=by have:=il.out.2.1;omega
  have aj:w8.heap.size≠p4:=by have:=(aZ.out.is aI).1;omega
  have ax:w8.heap.size≠p2:=by have:=eU.out.2.1;omega
  generalize w8.heap.size=p1 at *
  generalize w8.alloc (.cells #[.bool false,.slice none 0 0] 38)=w9 at *
  have cB:=hid hn
  have ak:Hid (p0≠p1):=aG.symm
  have au:Hid (p1≠p0):=aG
  have aa:Hid (p4≠p1):=aj.symm
  have ag:Hid (p2≠p1):=ax.symm
  have af:Hid (p1≠p2):=ax
  clear hn hal aI il aZ eU aG aj ax
  refine q02 (l':=#[true,true,true,true,true,true,true,false,true,true,true,true,true,false,false,false,false]) (by kernel_rfl) ?_
  revert az
  revert av
  revert au
  revert ah
  revert af
  revert ay
  revert ag
  revert aa
  revert ak
  revert iL
  revert bC
  revert cB
  revert kz
  revert aQ
  revert p2
  revert o4
  revert p4
  revert p1
  revert p0
  revert w9
  exact ma.out
  refine Later.mk ?_
  intro w8 p0 p1 p4 o4 aI il bD aZ ak aa au av
  refine q0c (i:=7) (j:=8) (by kernel_rfl) rfl rfl ?_ ?_
  ·skip
   intro K hK
   go_simp
   have dP:Hid _:=q1o w8 p1 0 bx 0 p4 o4 0 xa yb KB (by omega) iR.out iT.out bD.out.2.1 (G.lt aI hbx) (aZ.out.is aI).1 bD.out.2.2 (IntIs.G HX0.out hbx aI) (aZ.out.is aI).2
   go_wp2_with (go_at_call 50;refine Calls.mono (P:=Tryz.prog) dP.out ?_;intro e w9 hx;obtain⟨rfl,aQ,hl,-,hkp⟩:=SetTo.step aI bD.out hx)
   have cB:=hid hl
   have kz:=hid (hkp _ _ ak.out il.out)
   have bC:=hid (DI.keep aZ.out (hkp _ _ aa.out))
   refine hK.out _ _ (Or.inr aQ) ?_
   clear hK K hx hl hkp dP aI il bD aZ
   refine q02 (l':=#[true,true,true,true,true,true,true,true,false,true,true,true,true,false,false,false,false]) (by kernel_rfl) ?_
   revert av
   revert au
   revert aa
   revert ak
   revert bC
   revert cB
   revert kz
   revert aQ
   revert o4
   revert p4
   revert p1
   revert p0
   revert w9
   exact uk.out
  ·skip
   intro K hK
   go_simp
   refine hK.out _ _ (Or.inr (aI.alloc _)) ?_
   clear hK K
   have hn:=NI.new aI 38
   have hal:=(G.refl w8).alloc (.cells #[.bool false,.slice none 0 0] 38)
   have aQ:=G.trans aI hal
   have kz:=hid (il.out.G hal)
   have cB:=hid (bD.out.G hal)
   have bC:=hid (aZ.out.G hal)
   have aG:w8.heap.size≠p0:=by have:=il.out.2.1;omega
   have ae:w8.heap.size≠p1:=by have:=bD.out.2.1;omega
   have aj:w8.heap.size≠p4:=by have:=(aZ.out.is aI).1;omega
   generalize w8.heap.size=p2 at *
   generalize w8.alloc (.cells #[.bool false,.slice none 0 0] 38)=w9 at *
   have iL:=hid hn
   have ay:Hid (p0≠p2):=aG.symm
   have az:Hid (p2≠p0):=aG
   have af:Hid (p1≠p2):=ae.symm
   have ag:Hid (p2≠p1):=ae
   have ah:Hid (p4≠p2):=aj.symm
   clear hn hal aI il bD aZ aG ae aj
   refine q02 (l':=#[true,true,true,true,true,true,true,false,true,true,true,true,true,false,false,false,false]) (by kernel_rfl) ?_
   revert az
   revert av
   revert au
   revert ah
   revert af
   revert ay
   revert ag
   revert aa
   revert ak
   revert iL
   revert bC
   revert cB
   revert kz
   revert aQ
   revert p2
   revert o4
   revert p4
   revert p1
   revert p0
   revert w9
   exact ma.out
  refine Later.mk ?_
  intro w8 p0 p1 p2 aI il bD eU ak ag ay af au az
  refine q03 (i:=6) (by kernel_rfl) rfl ?_
  intro K hK
  go_simp
  go_wp2_with (go_at_call 51;refine Calls.mono (P:=Tryz.prog) (q0J w w8 aI b2 ya yb dK hby kv.out) ?_;intro e w9 hx;obtain⟨p4,o4,rfl,hg,h72,eF⟩:=hx)
  refine hK.out _ _ (Or.inr (G.trans aI hg)) ?_
  clear hK K
  have aQ:=G.trans aI hg
  have bC:=hid h72
  have aG:p4≠p0:=by have h1:=il.out.1;have h2:=il.out.2.1;omega
  have ae:p4≠p1:=by have h1:=bD.out.1;have h2:=bD.out.2.1;omega
  have ax:p4≠p2:=by have h1:=eU.out.1;have h2:=eU.out.2.1;omega
  have kz:=hid (il.out.G hg)
  have cB:=hid (bD.out.G hg)
  have iL:=hid (eU.out.G hg)
  have av:Hid (p4≠p0):=aG
  have aa:Hid (p4≠p1):=ae
  have ah:Hid (p4≠p2):=ax
  clear hg h72 eF aI il bD eU aG ae ax
  refine q02 (l':=#[true,true,true,true,true,true,true,false,true,true,true,true,true,false,false,false,false]) (by kernel_rfl) ?_
  revert az
  revert av
  revert au
  revert ah
  revert af
  revert ay
  revert ag
  revert aa
  revert ak
  revert iL
  revert bC
  revert cB
  revert kz
  revert aQ
  revert p2
  revert o4
  revert p4
  revert p1
  revert p0
  revert w9
  exact ma.out
  refine Later.mk ?_
  intro w9 p1 p4 o4 p2 aQ cB bC iL aa ag af ah
  refine q0c (i:=0) (j:=13) (by kernel_rfl) rfl rfl ?_ ?_
  ·skip
   intro K hK
   go_simp
   refine hK.out _ _ (Or.inr (aQ.alloc _)) ?_
   clear hK K
   have hn:=NI.new aQ 38
   have hal:=(G.refl w9).alloc (.cells #[.bool false,.slice none 0 0] 38)
   have aH:=G.trans aQ hal
   have aX:=hid (cB.out.G hal)
   have aV:=hid (bC.out.G hal)
   have bn:=hid (iL.out.G hal)
   have ae:w9.heap.size≠p1:=by have:=cB.out.2.1;omega
   have aj:w9.heap.size≠p4:=by have:=(bC.out.is aQ).1;omega
   have ax:w9.heap.size≠p2:=by have:=iL.out.2.1;omega
   generalize w9.heap.size=p0 at *
   generalize w9.alloc (.cells #[.bool false,.slice none 0 0] 38)=aU at *
   have dR:=hid hn
   have au:Hid (p1≠p0):=ae.symm
   have ak:Hid (p0≠p1):=ae
   have av:Hid (p4≠p0):=aj.symm
   have az:Hid (p2≠p0):=ax.symm
   have ay:Hid (p0≠p2):=ax
   clear hn hal aQ cB bC iL ae aj ax
   refine q02 (l':=#[true,true,true,true,true,true,true,true,true,true,true,true,true,false,false,false,false]) (by kernel_rfl) ?_
   revert az
   revert av
   revert au
   revert ah
   revert af
   revert ay
   revert ag
   revert aa
   revert ak
   revert bn
   revert aV
   revert aX
   revert dR
   revert aH
   revert p2
   revert o4
   revert p4
   revert p1
   revert p0
   revert aU
   exact lZ.out
  ·skip
   intro K hK
   go_simp
   go_wp2_with (go_at_call 51;refine Calls.mono (P:=Tryz.prog) (q0J w w9 aQ bx xa xb gL hbx nK.out) ?_;intro e aU hx;obtain⟨p3,o3,rfl,hg,h72,eF⟩:=hx)
   refine hK.out _ _ (Or.inr (G.trans aQ hg)) ?_
   clear hK K
   have aH:=G.trans aQ hg
   have bg:=hid h72
   have ae:p3≠p1:=by have h1:=cB.out.1;have h2:=cB.out.2.1;omega
   have ax:p3≠p2:=by have h1:=iL.out.1;have h2:=iL.out.2.1;omega
   have aX:=hid (cB.out.G hg)
   have aV:=hid (bC.out.G hg)
   have bn:=hid (iL.out.G hg)
   have aJ:Hid (p3≠p1):=ae
   have aK:Hid (p3≠p2):=ax
   clear hg h72 eF aQ cB bC iL ae ax
   refine q02 (l':=#[false,true,true,true,true,true,true,true,true,true,true,true,true,true,false,false,false]) (by kernel_rfl) ?_
   revert aK
   revert ah
   revert af
   revert aJ
   revert ag
   revert aa
   revert bg
   revert bn
   revert aV
   revert aX
   revert aH
   revert o3
   revert p3
   revert p2
   revert o4
   revert p4
   revert p1
   revert aU
   exact bX.out
  refine Later.mk ?_
  intro w9 p0 p1 p4 o4 aQ kz cB bC ak aa au av
  refine q0c (i:=8) (j:=13) (by kernel_rfl) rfl rfl ?_ ?_
  ·skip
   intro K hK
   go_simp
   refine hK.out _ _ (Or.inr (aQ.alloc _)) ?_
   clear hK K
   have hn:=NI.new aQ 38
   have hal:=(G.refl w9).alloc (.cells #[.bool false,.slice none 0 0] 38)
   have aH:=G.trans aQ hal
   have dR:=hid (kz.out.G hal)
   have aX:=hid (cB.out.G hal)
   have aV:=hid (bC.out.G hal)
   have aG:w9.heap.size≠p0:=by have:=kz.out.2.1;omega
   have ae:w9.heap.size≠p1:=by have:=cB.out.2.1;omega
   have aj:w9.heap.size≠p4:=by have:=(bC.out.is aQ).1;omega
   generalize w9.heap.size=p2 at *
   generalize w9.alloc (.cells #[.bool false,.slice none 0 0] 38)=aU at *
   have bn:=hid hn
   have ay:Hid (p0≠p2):=aG.symm
   have az:Hid (p2≠p0):=aG
   have af:Hid (p1≠p2):=ae.symm
   have ag:Hid (p2≠p1):=ae
   have ah:Hid (p4≠p2):=aj.symm
   clear hn hal aQ kz cB bC aG ae aj
   refine q02 (l':=#[true,true,true,true,true,true,true,true,true,true,true,true,true,false,false,false,false]) (by kernel_rfl) ?_
   revert az
   revert av
   revert au
   revert ah
   revert af
   revert ay
   revert ag
   revert aa
   revert ak
   revert bn
   revert aV
   revert aX
   revert dR
   revert aH
   revert p2
   revert o4
   revert p4
   revert p1
   revert p0
   revert aU
   exact lZ.out
  ·skip
   intro K hK
   go_simp
   go_wp2_with (go_at_call 51;refine Calls.mono (P:=Tryz.prog) (q0J w w9 aQ bx xa xb gL hbx nK.out) ?_;intro e aU hx;obtain⟨p3,o3,rfl,hg,h72,eF⟩:=hx)
   refine hK.out _ _ (Or.inr (G.trans aQ hg)) ?_
   clear hK K
   have aH:=G.trans aQ hg
   have bg:=hid h72
   have aG:p3≠p0:=by have h1:=kz.out.1;have h2:=kz.out.2.1;omega
   have ae:p3≠p1:=by have h1:=cB.out.1;have h2:=cB.out.2.1;omega
   have dR:=hid (kz.out.G hg)
   have aX:=hid (cB.out.G hg)
   have aV:=hid (bC.out.G hg)
   have aS:Hid (p3≠p0):=aG
   have aJ:Hid (p3≠p1):=ae
   clear hg h72 eF aQ kz cB bC aG ae
   refine q02 (l':=#[true,true,true,true,true,true,true,true,false,true,true,true,true,true,false,false,false]) (by kernel_rfl) ?_
   revert aS
   revert av
   revert au
   revert aJ
   revert aa
   revert ak
   revert bg
   revert aV
   revert aX
   revert dR
   revert aH
   revert o3
   revert p3
   revert o4
   revert p4
   revert p1
   revert p0
   revert aU
   exact pO.out
  refine Later.mk ?_
  intro w9 p0 p1 p4 o4 p2 aQ kz cB bC iL ak aa ag ay af ah au av az
  refine q03 (i:=7) (by kernel_rfl) rfl ?_
  intro K hK
  go_simp
  have dP:Hid _:=q1o w9 p1 0 bx 0 p4 o4 0 xa yb KB (by omega) iR.out iT.out cB.out.2.1 (G.lt aQ hbx) (bC.out.is aQ).1 cB.out.2.2 (IntIs.G HX0.out hbx aQ) (bC.out.is aQ).2
  go_wp2_with (go_at_call 50;refine Calls.mono (P:=Tryz.prog) dP.out ?_;intro e aU hx;obtain⟨rfl,aH,hl,-,hkp⟩:=SetTo.step aQ cB.out hx)
  have aX:=hid hl
  have dR:=hid (hkp _ _ ak.out kz.out)
  have aV:=hid (DI.keep bC.out (hkp _ _ aa.out))
  have bn:=hid (hkp _ _ ag.out iL.out)
  refine hK.out _ _ (Or.inr aH) ?_
  clear hK K hx hl hkp dP aQ kz cB bC iL
  refine q02 (l':=#[true,true,true,true,true,true,true,true,true,true,true,true,true,false,false,false,false]) (by kernel_rfl) ?_
  revert az
  revert av
  revert au
  revert ah
  revert af
  revert ay
  revert ag
  revert aa
  revert ak
  revert bn
  revert aV
  revert aX
  revert dR
  revert aH
  revert p2
  revert o4
  revert p4
  revert p1
  revert p0
  revert aU
  exact lZ.out
  refine Later.mk ?_
  intro aU p1 p4 o4 p2 p3 o3 aH aX aV bn bg aa ag aJ af ah aK
  refine q0c (i:=0) (j:=14) (by kernel_rfl) rfl rfl ?_ ?_
  ·skip
   intro K hK
   go_simp
   refine hK.out _ _ (Or.inr (aH.alloc _)) ?_
   clear hK K
   have hn:=NI.new aH 38
   have hal:=(G.refl aU).alloc (.cells #[.bool false,.slice none 0 0] 38)
   have aY:=G.trans aH hal
   have gN:=hid (aX.out.G hal)
   have gY:=hid (aV.out.G hal)
   have fJ:=hid (bn.out.G hal)
   have gp:=hid (bg.out.G hal)
   have ae:aU.heap.size≠p1:=by have:=aX.out.2.1;omega
   have aj:aU.heap.size≠p4:=by have:=(aV.out.is aH).1;omega
   have ax:aU.heap.size≠p2:=by have:=bn.out.2.1;omega
   have bN:aU.heap.size≠p3:=by have:=(bg.out.is aH).1;omega
   generalize aU.heap.size=p0 at *
   generalize aU.alloc (.cells #[.bool false,.slice none 0 0] 38)=dM at *
   have nA:=hid hn
   have au:Hid (p1≠p0):=ae.symm
   have ak:Hid (p0≠p1):=ae
   have av:Hid (p4≠p0):=aj.symm
   have az:Hid (p2≠p0):=ax.symm
   have ay:Hid (p0≠p2):=ax
   have aS:Hid (p3≠p0):=bN.symm
   clear hn hal aH aX aV bn bg ae aj ax bN
   refine q02 (l':=#[true,true,true,true,true,true,true,true,true,true,true,true,true,true,false,false,false]) (by kernel_rfl) ?_
   revert aS
   revert az
   revert av
   revert au
   revert aK
   revert ah
   revert af
   revert ay
   revert aJ
   revert ag
   revert aa
   revert ak
   revert gp
   revert fJ
   revert gY
   revert gN
   revert nA
   revert aY
   revert o3
   revert p3
   revert p2
   revert o4
   revert p4
   revert p1
   revert p0
   revert dM
   exact jT.out
  ·skip
   intro K hK
   go_simp
   have dP:Hid _:=q1o aU p2 0 b2 0 p3 o3 0 ya xb KB (by omega) kR.out kS.out bn.out.2.1 (G.lt aH hby) (bg.out.is aH).1 bn.out.2.2 (IntIs.G qW.out hby aH) (bg.out.is aH).2
   go_wp2_with (go_at_call 50;refine Calls.mono (P:=Tryz.prog) dP.out ?_;intro e dM hx;obtain⟨rfl,aY,hl,-,hkp⟩:=SetTo.step aH bn.out hx)
   have fJ:=hid hl
   have gN:=hid (hkp _ _ af.out aX.out)
   have gY:=hid (DI.keep aV.out (hkp _ _ ah.out))
   have gp:=hid (DI.keep bg.out (hkp _ _ aK.out))
   refine hK.out _ _ (Or.inr aY) ?_
   clear hK K hx hl hkp dP aH aX aV bn bg
   refine q03 (i:=0) (by kernel_rfl) rfl ?_
   intro K hK
   go_simp
   refine hK.out _ _ (Or.inr (aY.alloc _)) ?_
   clear hK K
   have hn:=NI.new aY 38
   have hal:=(G.refl dM).alloc (.cells #[.bool false,.slice none 0 0] 38)
   have jV:=G.trans aY hal
   have iP:=hid (gN.out.G hal)
   have mf:=hid (gY.out.G hal)
   have iO:=hid (fJ.out.G hal)
   have mg:=hid (gp.out.G hal)
   have ae:dM.heap.size≠p1:=by have:=gN.out.2.1;omega
   have aj:dM.heap.size≠p4:=by have:=(gY.out.is aY).1;omega
   have ax:dM.heap.size≠p2:=by have:=fJ.out.2.1;omega
   have bN:dM.heap.size≠p3:=by have:=(gp.out.is aY).1;omega
   generalize dM.heap.size=p0 at *
   generalize dM.alloc (.cells #[.bool false,.slice none 0 0] 38)=gq at *
   have jC:=hid hn
   have au:Hid (p1≠p0):=ae.symm
   have ak:Hid (p0≠p1):=ae
   have av:Hid (p4≠p0):=aj.symm
   have az:Hid (p2≠p0):=ax.symm
   have ay:Hid (p0≠p2):=ax
   have aS:Hid (p3≠p0):=bN.symm
   clear hn hal aY gN gY fJ gp ae aj ax bN
   refine q02 (l':=#[true,true,true,true,true,true,true,true,true,true,true,true,true,true,true,false,false]) (by kernel_rfl) ?_
   revert aS
   revert az
   revert av
   revert au
   revert aK
   revert ah
   revert af
   revert ay
   revert aJ
   revert ag
   revert aa
   revert ak
   revert mg
   revert iO
   revert mf
   revert iP
   revert jC
   revert jV
   revert o3
   revert p3
   revert p2
   revert o4
   revert p4
   revert p1
   revert p0
   revert gq
   exact l6.out
  refine Later.mk ?_
  intro aU p0 p1 p4 o4 p3 o3 aH dR aX aV bg ak aa aJ au av aS
  refine q03 (i:=8) (by kernel_rfl) rfl ?_
  intro K hK
  go_simp
  refine hK.out _ _ (Or.inr (aH.alloc _)) ?_
  clear hK K
  have hn:=NI.new aH 38
  have hal:=(G.refl aU).alloc (.cells #[.bool false,.slice none 0 0] 38)
  have aY:=G.trans aH hal
  have nA:=hid (dR.out.G hal)
  have gN:=hid (aX.out.G hal)
  have gY:=hid (aV.out.G hal)
  have gp:=hid (bg.out.G hal)
  have aG:aU.heap.size≠p0:=by have:=dR.out.2.1;omega
  have ae:aU.heap.size≠p1:=by have:=aX.out.2.1;omega
  have aj:aU.heap.size≠p4:=by have:=(aV.out.is aH).1;omega
  have bN:aU.heap.size≠p3:=by have:=(bg.out.is aH).1;omega
  generalize aU.heap.size=p2 at *
  generalize aU.alloc (.cells #[.bool false,.slice none 0 0] 38)=dM at *
  have fJ:=hid hn
  have ay:Hid (p0≠p2):=aG.symm
  have az:Hid (p2≠p0):=aG
  have af:Hid (p1≠p2):=ae.symm
  have ag:Hid (p2≠p1):=ae
  have ah:Hid (p4≠p2):=aj.symm
  have aK:Hid (p3≠p2):=bN.symm
  clear hn hal aH dR aX aV bg aG ae aj bN
  refine q02 (l':=#[true,true,true,true,true,true,true,true,true,true,true,true,true,true,false,false,false]) (by kernel_rfl) ?_
  revert aS
  revert az
  revert av
  revert au
  revert aK
  revert ah
  revert af
  revert ay
  revert aJ
  revert ag
  revert aa
  revert ak
  revert gp
  revert fJ
  revert gY
  revert gN
  revert nA
  revert aY
  revert o3
  revert p3
  revert p2
  revert o4
  revert p4
  revert p1
  revert p0
  revert dM
  exact jT.out
  refine Later.mk ?_
  intro aU p0 p1 p4 o4 p2 aH dR aX aV bn ak aa ag ay af ah au av az
  refine q03 (i:=13) (by kernel_rfl) rfl ?_
  intro K hK
  go_simp
  go_wp2_with (go_at_call 51;refine Calls.mono (P:=Tryz.prog) (q0J w aU aH bx xa xb gL hbx nK.out) ?_;intro e dM hx;obtain⟨p3,o3,rfl,hg,h72,eF⟩:=hx)
  refine hK.out _ _ (Or.inr (G.trans aH hg)) ?_
  clear hK K
  have aY:=G.trans aH hg
  have gp:=hid h72
  have aG:p3≠p0:=by have h1:=dR.out.1;have h2:=dR.out.2.1;omega
  have ae:p3≠p1:=by have h1:=aX.out.1;have h2:=aX.out.2.1;omega
  have ax:p3≠p2:=by have h1:=bn.out.1;have h2:=bn.out.2.1;omega
  have nA:=hid (dR.out.G hg)
  have gN:=hid (aX.out.G hg)
  have gY:=hid (aV.out.G hg)
  have fJ:=hid (bn.out.G hg)
  have aS:Hid (p3≠p0):=aG
  have aJ:Hid (p3≠p1):=ae
  have aK:Hid (p3≠p2):=ax
  clear hg h72 eF aH dR aX aV bn aG ae ax
  refine q02 (l':=#[true,true,true,true,true,true,true,true,true,true,true,true,true,true,false,false,false]) (by kernel_rfl) ?_
  revert aS
  revert az
  revert av
  revert au
  revert aK
  revert ah
  revert af
  revert ay
  revert aJ
  revert ag
  revert aa
  revert ak
  revert gp
  revert fJ
  revert gY
  revert gN
  revert nA
  revert aY
  revert o3
  revert p3
  revert p2
  revert o4
  revert p4
  revert p1
  revert p0
  revert dM
  exact jT.out
  refine Later.mk ?_
  intro dM p0 p1 p4 o4 p2 p3 o3 aY nA gN gY fJ gp ak aa ag aJ ay af ah aK au av az aS
  refine q03 (i:=14) (by kernel_rfl) rfl ?_
  intro K hK
  go_simp
  have dP:Hid _:=q1o dM p2 0 b2 0 p3 o3 0 ya xb KB (by omega) kR.out kS.out fJ.out.2.1 (G.lt aY hby) (gp.out.is aY).1 fJ.out.2.2 (IntIs.G qW.out hby aY) (gp.out.is aY).2
  go_wp2_with (go_at_call 50;refine Calls.mono (P:=Tryz.prog) dP.out ?_;intro e gq hx;obtain⟨rfl,jV,hl,-,hkp⟩:=SetTo.step aY fJ.out hx)
  have iO:=hid hl
  have jC:=hid (hkp _ _ ay.out nA.out)
  have iP:=hid (hkp _ _ af.out gN.out)
  have mf:=hid (DI.keep gY.out (hkp _ _ ah.out))
  have mg:=hid (DI.keep gp.out (hkp _ _ aK.out))
  refine hK.out _ _ (Or.inr jV) ?_
  clear hK K hx hl hkp dP aY nA gN gY fJ gp
  refine q02 (l':=#[true,true,true,true,true,true,true,true,true,true,true,true,true,true,true,false,false]) (by kernel_rfl) ?_
  revert aS
  revert az
  revert av
  revert au
  revert aK
  revert ah
  revert af
  revert ay
  revert aJ
  revert ag
  revert aa
  revert ak
  revert mg
  revert iO
  revert mf
  revert iP
  revert jC
  revert jV
  revert o3
  revert p3
  revert p2
  revert o4
  revert p4
  revert p1
  revert p0
  revert gq
  exact l6.out
  refine Later.mk ?_
  intro gq p0 p1 p4 o4 p2 p3 o3 jV jC iP mf iO mg ak aa ag aJ ay af ah aK au av az aS
  refine q03 (i:=15) (by kernel_rfl) rfl ?_
  intro K hK
  go_simp
  have dP:Hid _:=q7h gq p0 0 p1 0 p2 0 0 (xa*(yb:Int)) (ya*(xb:Int)) (2*KB) (by omega) nH.out cu.out jC.out.2.1 iP.out.2.1 iO.out.2.1 jC.out.2.2 iP.out.2.2 iO.out.2.2
  go_wp2_with (go_at_call 55;refine Calls.mono (P:=Tryz.prog) dP.out ?_;intro e l7 hx;obtain⟨rfl,wF,hl,-,hkp⟩:=SetTo.step jV jC.out hx)
  have wG:=hid hl
  have Aw:=hid (hkp _ _ au.out iP.out)
  have Ay:=hid (DI.keep mf.out (hkp _ _ av.out))
  have Az:=hid (hkp _ _ az.out iO.out)
  have AA:=hid (DI.keep mg.out (hkp _ _ aS.out))
  refine hK.out _ _ (Or.inl (by decide)) ?_
  clear hK K hx hl hkp dP jV jC iP mf iO mg
  refine q03 (i:=16) (by kernel_rfl) rfl ?_
  intro K hK
  go_simp
  refine hK.out _ _ (Or.inl (by decide)) ?_
  clear hK K
  refine q0l (by kernel_rfl) ?_ _
  revert aS
  revert az
  revert av
  revert au
  revert aK
  revert ah
  revert af
  revert ay
  revert aJ
  revert ag
  revert aa
  revert ak
  revert AA
  revert Az
  revert Ay
  revert Aw
  revert wG
  revert wF
  revert o3
  revert p3
  revert p2
  revert o4
  revert p4
  revert p1
  revert p0
  revert l7
  exact LX.out
 ·skip
  refine Later.mk ?_
  intro l7 p0 p1 p4 o4 p2 p3 o3 wF wG Aw Ay Az AA ak aa ag aJ ay af ah aK au av az aS
  clear ak aa ag aJ ay af ah aK au av az aS
  have HS:=wG.out
  have hG:=wF
  clear wG Aw Az Ay AA wF
  have Bd:Hid (NI w l7 p0 (xa*(yb:Int)+ya*(xb:Int))):=HS
  clear HS
  go_wp2_with fail
  have hn0:=NI.new hG 38
  have hal:=(G.refl l7).alloc (.cells #[.bool false,.slice none 0 0] 38)
  have hG1:=G.trans hG hal
  have hs1:=Bd.out.G hal
  have hne:p0≠l7.heap.size:=by have:=Bd.out.2.1;omega
  generalize l7.heap.size=pd at *
  generalize l7.alloc (.cells #[.bool false,.slice none 0 0] 38)=v1 at *
  have iZ:Hid (NI w v1 pd 0):=hn0
  have ql:Hid (NI w v1 p0 (xa*(yb:Int)+ya*(xb:Int))):=hs1
  clear hn0 hal hs1 hG Bd
  refine Calls.mono (P:=Tryz.prog) (q0J w v1 hG1 bx xa xb gL hbx nK.out) ?_
  rintro e v2 ⟨pe,oe,rfl,hg2,k2,-⟩
  have HE2:Hid (DI w v2 pe oe xb):=k2
  clear k2
  have hG2:=G.trans hG1 hg2
  have og:Hid (NI w v2 pd 0):=iZ.out.G hg2
  have HS2:Hid (NI w v2 p0 (xa*(yb:Int)+ya*(xb:Int))):=ql.out.G hg2
  clear hG1 hg2 iZ ql
  go_wp2_with fail
  refine Calls.mono (P:=Tryz.prog) (q0J w v2 hG2 b2 ya yb dK hby kv.out) ?_
  rintro e v3 ⟨pf,of,rfl,hg3,k3,-⟩
  have zg:Hid (DI w v3 pf of yb):=k3
  have hG3:=G.trans hG2 hg3
  have Gy:Hid (NI w v3 pd 0):=og.out.G hg3
  have qO:Hid (NI w v3 p0 (xa*(yb:Int)+ya*(xb:Int))):=HS2.out.G hg3
  have Ov:Hid (DI w v3 pe oe xb):=HE2.out.G hg3
  clear hG2 hg3 og HS2 HE2 k3
  have HM:Hid _:=q1o v3 pd 0 pe oe pf of 0 xb yb KB (by omega) kS.out iT.out Gy.out.2.1 (Ov.out.is hG3).1 (zg.out.is hG3).1 Gy.out.2.2 (Ov.out.is hG3).2 (zg.out.is hG3).2
  go_wp2_with fail
  refine Calls.mono (P:=Tryz.prog) HM.out ?_
  intro e v4 hs
  obtain⟨rfl,hG4,mH,-,hkp⟩:=SetTo.step hG3 Gy.out hs
  have E5:Hid (NI w v4 p0 (xa*(yb:Int)+ya*(xb:Int))):=hkp p0 _ hne qO.out
  rw[show (xb:Int)*yb=((xb*yb:Nat):Int) from by push_cast;rfl] at mH
  have Lg:Hid (NI w v4 pd ((xb*yb:Nat):Int)):=mH
  clear hs hkp mH HM Gy qO hG3 hne
  have HF:Hid _:=q0Y v4 bz p0 0 pd 0 s1 s2 (xa*(yb:Int)+ya*(xb:Int)) (xb*yb) (2*KB+1) (by omega) TH.out HD2.out HD0.out (G.lt hG4 hbz) E5.out.2.1 Lg.out.2.1 (Fb.out.G hbz hG4) E5.out.2.2 Lg.out.2.2
  go_wp2_with fail
  refine Calls.mono (P:=Tryz.prog) HF.out ?_
  intro e v5 hs
  obtain⟨rfl,k1,k2⟩:=NormTo.after hG4 hs
  have iX:Hid _:=k2
  clear hs k2 HF E5 Lg
  go_wp2_with fail
  go_ret
  exact⟨rfl,k1,iX.out⟩
set_option maxHeartbeats 4000000 in
theorem qc9 (w:World) (bz bx b2:Nat) (s1 s2 xa ya:Int) (xb yb:Nat) (KB:Nat) (hK:KB≤100000) (hx2:xa.natAbs<2^(32*KB)) (hy2:ya.natAbs<2^(32*KB)) (fZ:xb<2^(32*KB)) (gK:yb<2^(32*KB)) (hxb:0<xb) (hyb:0<yb)
  (hbz:bz<w.heap.size) (hbx:bx<w.heap.size) (hby:b2<w.heap.size) (hz:RatIs w bz s1 s2) (hx:RatV w bx xa xb) (hy:RatV w b2 ya yb):
  Calls Tryz.prog 14 #[.pointer (some ⟨bz,0,none⟩),.pointer (some ⟨bx,0,none⟩),.pointer (some ⟨b2,0,none⟩)] w (NormTo w bz (Int.tdiv (xa*ya) (Nat.gcd (xa*ya).natAbs (xb*yb):Nat)) (xb*yb/Nat.gcd (xa*ya).natAbs (xb*yb))):=by
 have iR:Hid (xa.natAbs<2^(32*KB)):=hx2
 have kR:Hid (ya.natAbs<2^(32*KB)):=hy2
 have kS:Hid ((xb:Int).natAbs<2^(32*KB)):=by show (xb:Int).natAbs<2^(32*KB);rw[Int.natAbs_natCast];exact fZ
 have iT:Hid ((yb:Int).natAbs<2^(32*KB)):=by show (yb:Int).natAbs<2^(32*KB);rw[Int.natAbs_natCast];exact gK
 have HX0:Hid (IntIs w bx 0 xa):=hx.num
 have qW:Hid (IntIs w b2 0 ya):=hy.num
 have nK:Hid (RatV w bx xa xb):=hx
 have kv:Hid (RatV w b2 ya yb):=hy
 have Fb:Hid (RatIs w bz s1 s2):=hz
 have gL:0<xb:=hxb
 have dK:0<yb:=hyb
 have cu:Hid ((xa*ya).natAbs<2^(32*(2*KB))):=by
  show (xa*ya).natAbs<2^(32*(2*KB))
  rw[Int.natAbs_mul,show 32*(2*KB)=32*KB+32*KB from by omega,Nat.pow_add]
  exact Nat.mul_lt_mul'' hx2 hy2
 have HD2:Hid (xb*yb<2^(32*(2*KB))):=by
  show xb*yb<2^(32*(2*KB))
  rw[show 32*(2*KB)=32*KB+32*KB from by omega,Nat.pow_add]
  exact Nat.mul_lt_mul'' fZ gK
 have HD0:Hid (0<xb*yb):=Nat.mul_pos hxb hyb
 have qC:Hid ((xb:Int)*yb=((xb*yb:Nat):Int)):=by show (xb:Int)*yb=((xb*yb:Nat):Int);push_cast;rfl
 clear hx hy hz hx2 hy2 fZ gK hxb hyb
 go_enter Tryz.func14,Tryz.ntmps14
 go_wp2_with fail
 refine q0K 15 (G w) (by kernel_rfl) (by first|exact(G.refl _).drew|exact G.drew (by assumption)) ?_
 intro bE
 refine q00 0 (v:= ?_) rfl (by kernel_rfl) (fun _ _ _ h=>h) rfl ?_ ‹_› ?_
 rotate_left
 ·intro wq hwq
  first|(go_simp;done)|(go_simp;with_reducible rfl)
 try simp only[aput,List.set]
 refine q00 2 (v:= ?_) rfl (by kernel_rfl) (fun _ _ _ h=>h) rfl ?_ ‹_› ?_
 rotate_left
 ·intro wq hwq
  first|(go_simp;done)|(go_simp;with_reducible rfl)
 try simp only[aput,List.set]
 refine q00 3 (v:= ?_) rfl (by kernel_rfl) (fun _ _ _ h=>h) rfl ?_ ‹_› ?_
 rotate_left
 ·intro wq hwq
  first|(go_simp;done)|(go_simp;with_reducible rfl)
 try simp only[aput,List.set]
 refine q00 4 (v:= ?_) rfl (by kernel_rfl) (fun _ _ _ h=>h) rfl ?_ ‹_› ?_
 rotate_left
 ·intro wq hwq
  first|(go_simp;done)|(go_simp;with_reducible rfl)
 try simp only[aput,List.set]
 refine q00 5 (v:= ?_) rfl (by kernel_rfl) (fun _ _ _ h=>h) rfl ?_ ‹_› ?_
 rotate_left
 ·intro wq hwq
  first|(go_simp;done)|(go_simp;with_reducible rfl)
 try simp only[aput,List.set]
 refine q00 6 (v:= ?_) rfl (by kernel_rfl) (fun _ _ _ h=>h) rfl ?_ ‹_› ?_
 rotate_left
 ·intro wq hwq
  first|(go_simp;done)|(go_simp;with_reducible rfl)
 try simp only[aput,List.set]
 refine q00 7 (v:= ?_) rfl (by kernel_rfl) (fun _ _ _ h=>h) rfl ?_ ‹_› ?_
 rotate_left
 ·intro wq hwq
  first|(go_simp;done)|(go_simp;with_reducible rfl)
 try simp only[aput,List.set]
 refine q00 10 (v:= ?_) rfl (by kernel_rfl) (fun _ _ _ h=>h) rfl ?_ ‹_› ?_
 rotate_left
 ·intro wq hwq
  first|(go_simp;done)|(go_simp;with_reducible rfl)
 try simp only[aput,List.set]
 refine q00 12 (v:= ?_) rfl (by kernel_rfl) (fun _ _ _ h=>h) rfl ?_ ‹_› ?_
 rotate_left
 ·intro wq hwq
  first|(go_simp;done)|(go_simp;with_reducible rfl)
 try simp only[aput,List.set]
 show q0E _ _ _ _ _ _ _ _ _ w.drew
 have hS5:=bE
 generalize w.drew=w5 at *
 clear bE
 apply share
 intro bX
 apply share
 intro dO
 apply share
 intro xC
 apply share
 intro jU
 refine q0c (i:=1) (j:=9) (by kernel_rfl) rfl rfl ?_ ?_
 ·skip
  intro K hK
  go_simp
  refine hK.out _ _ (Or.inr (hS5.alloc _)) ?_
  clear hK K
  have hn:=NI.new hS5 38
  have hal:=(G.refl w5).alloc (.cells #[.bool false,.slice none 0 0] 38)
  have aO:=G.trans hS5 hal
  generalize w5.heap.size=pn at *
  generalize w5.alloc (.cells #[.bool false,.slice none 0 0] 38)=w6 at *
  have qE:=hid hn
  clear hn hal
  refine q0c (i:=8) (j:=9) (by kernel_rfl) rfl rfl ?_ ?_
  ·skip
   intro K hK
   go_simp
   have dP:Hid _:=q1o w6 pn 0 bx 0 b2 0 0 xa ya KB (by omega) iR.out kR.out qE.out.2.1 (G.lt aO hbx) (G.lt aO hby) qE.out.2.2 (IntIs.G HX0.out hbx aO) (IntIs.G qW.out hby aO)
   go_wp2_with (go_at_call 50;refine Calls.mono (P:=Tryz.prog) dP.out ?_;intro e w7 hx;obtain⟨rfl,aC,hl,-,hkp⟩:=SetTo.step aO qE.out hx)
   have dH:=hid hl
   refine hK.out _ _ (Or.inr aC) ?_
   clear hK K hx hl hkp dP aO qE
   refine q0c (i:=9) (j:=11) (by kernel_rfl) rfl rfl ?_ ?_
   ·skip
    intro K hK
    go_simp
    refine hK.out _ _ (Or.inr (aC.alloc _)) ?_
    clear hK K
    have hn:=NI.new aC 38
    have hal:=(G.refl w7).alloc (.cells #[.bool false,.slice none 0 0] 38)
    have aI:=G.trans aC hal
    have gZ:=hid (dH.out.G hal)
    have aL:w7.heap.size≠pn:=by have:=dH.out.2.1;omega
    generalize w7.heap.size=pd at *
    generalize w7.alloc (.cells #[.bool false,.slice none 0 0] 38)=w8 at *
    have kZ:=hid hn
    have aA:Hid (pn≠pd):=aL.symm
    have aB:Hid (pd≠pn):=aL
    clear hn hal aC dH aL
    refine q02 (l':=#[true,true,true,true,true,true,true,true,true,true,true,false,true,false,false,false,false]) (by kernel_rfl) ?_
    revert aA
    revert aB
    revert kZ
    revert gZ
    revert aI
    revert pd
    revert pn
    revert w8
    exact xC.out
   ·skip
    intro K hK
    go_simp
    go_wp2_with (go_at_call 51;refine Calls.mono (P:=Tryz.prog) (q0J w w7 aC bx xa xb gL hbx nK.out) ?_;intro e w8 hx;obtain⟨p3,o3,rfl,hg,h72,eF⟩:=hx)
    refine hK.out _ _ (Or.inr (G.trans aC hg)) ?_
    clear hK K
    have aI:=G.trans aC hg
    have aZ:=hid h72
    have aL:p3≠pn:=by have h1:=dH.out.1;have h2:=dH.out.2.1;omega
    have gZ:=hid (dH.out.G hg)
    have fK:Hid (p3≠pn):=aL
    clear hg h72 eF aC dH aL
    refine q0c (i:=9) (j:=13) (by kernel_rfl) rfl rfl ?_ ?_
    ·skip
     intro K hK
     go_simp
     refine hK.out _ _ (Or.inr (aI.alloc _)) ?_
     clear hK K
     have hn:=NI.new aI 38
     have hal:=(G.refl w8).alloc (.cells #[.bool false,.slice none 0 0] 38)
     have aQ:=G.trans aI hal
     have jW:=hid (gZ.out.G hal)
     have bC:=hid (aZ.out.G hal)
     have aL:w8.heap.size≠pn:=by have:=gZ.out.2.1;omega
     have aj:w8.heap.size≠p3:=by have:=(aZ.out.is aI).1;omega
     generalize w8.heap.size=pd at *
     generalize w8.alloc (.cells #[.bool false,.slice none 0 0] 38)=w9 at *
     have lX:=hid hn
     have aA:Hid (pn≠pd):=aL.symm
     have aB:Hid (pd≠pn):=aL
     have dL:Hid (p3≠pd):=aj.symm
     clear hn hal aI gZ aZ aL aj
     refine q02 (l':=#[true,true,true,true,true,true,true,true,true,true,true,true,true,false,false,false,false]) (by kernel_rfl) ?_
     revert dL
     revert aA
     revert fK
     revert aB
     revert bC
     revert lX
     revert jW
     revert aQ
     revert o3
     revert p3
     revert pd
     revert pn
     revert w9
     exact dO.out
    ·skip
     intro K hK
     go_simp
     go_wp2_with (go_at_call 51;refine Calls.mono (P:=Tryz.prog) (q0J w w8 aI b2 ya yb dK hby kv.out) ?_;intro e w9 hx;obtain⟨p4,o4,rfl,hg,h72,eF⟩:=hx)
     refine hK.out _ _ (Or.inr (G.trans aI hg)) ?_
     clear hK K
     have aQ:=G.trans aI hg
     have pQ:=hid h72
     have aL:p4≠pn:=by have h1:=gZ.out.1;have h2:=gZ.out.2.1;omega
     have jW:=hid (gZ.out.G hg)
     have bC:=hid (aZ.out.G hg)
     have jA:Hid (p4≠pn):=aL
     clear hg h72 eF aI gZ aZ aL
     refine q03 (i:=9) (by kernel_rfl) rfl ?_
     intro K hK
     go_simp
     refine hK.out _ _ (Or.inr (aQ.alloc _)) ?_
     clear hK K
     have hn:=NI.new aQ 38
     have hal:=(G.refl w9).alloc (.cells #[.bool false,.slice none 0 0] 38)
     have aH:=G.trans aQ hal
     have jc:=hid (jW.out.G hal)
     have aV:=hid (bC.out.G hal)
     have bg:=hid (pQ.out.G hal)
     have aL:w9.heap.size≠pn:=by have:=jW.out.2.1;omega
     have aj:w9.heap.size≠p3:=by have:=(bC.out.is aQ).1;omega
     have bN:w9.heap.size≠p4:=by have:=(pQ.out.is aQ).1;omega
     generalize w9.heap.size=pd at *
     generalize w9.alloc (.cells #[.bool false,.slice none 0 0] 38)=aU at *
     have dU:=hid hn
     have aA:Hid (pn≠pd):=aL.symm
     have aB:Hid (pd≠pn):=aL
     have dL:Hid (p3≠pd):=aj.symm
     have iU:Hid (p4≠pd):=bN.symm
     clear hn hal aQ jW bC pQ aL aj bN
     refine q02 (l':=#[true,true,true,true,true,true,true,true,true,true,true,true,true,true,false,false,false]) (by kernel_rfl) ?_
     revert iU
     revert dL
     revert aA
     revert jA
     revert fK
     revert aB
     revert bg
     revert aV
     revert dU
     revert jc
     revert aH
     revert o4
     revert p4
     revert o3
     revert p3
     revert pd
     revert pn
     revert aU
     exact bX.out
  ·skip
   intro K hK
   go_simp
   refine hK.out _ _ (Or.inr (aO.alloc _)) ?_
   clear hK K
   have hn:=NI.new aO 38
   have hal:=(G.refl w6).alloc (.cells #[.bool false,.slice none 0 0] 38)
   have aC:=G.trans aO hal
   have dH:=hid (qE.out.G hal)
   have aL:w6.heap.size≠pn:=by have:=qE.out.2.1;omega
   generalize w6.heap.size=pd at *
   generalize w6.alloc (.cells #[.bool false,.slice none 0 0] 38)=w7 at *
   have jK:=hid hn
   have aA:Hid (pn≠pd):=aL.symm
   have aB:Hid (pd≠pn):=aL
   clear hn hal aO qE aL
   refine q02 (l':=#[true,true,true,true,true,true,true,true,false,true,true,false,true,false,false,false,false]) (by kernel_rfl) ?_
   revert aA
   revert aB
   revert jK
   revert dH
   revert aC
   revert pd
   revert pn
   revert w7
   exact jU.out
 ·skip
  intro K hK
  go_simp
  refine hK.out _ _ (Or.inr (hS5.alloc _)) ?_
  clear hK K
  have hn:=NI.new hS5 38
  have hal:=(G.refl w5).alloc (.cells #[.bool false,.slice none 0 0] 38)
  have aO:=G.trans hS5 hal
  generalize w5.heap.size=pd at *
  generalize w5.alloc (.cells #[.bool false,.slice none 0 0] 38)=w6 at *
  have uu:=hid hn
  clear hn hal
  refine q03 (i:=1) (by kernel_rfl) rfl ?_
  intro K hK
  go_simp
  refine hK.out _ _ (Or.inr (aO.alloc _)) ?_
  clear hK K
  have hn:=NI.new aO 38
  have hal:=(G.refl w6).alloc (.cells #[.bool false,.slice none 0 0] 38)
  have aC:=G.trans aO hal
  have jK:=hid (uu.out.G hal)
  have dz:w6.heap.size≠pd:=by have:=uu.out.2.1;omega
  generalize w6.heap.size=pn at *
  generalize w6.alloc (.cells #[.bool false,.slice none 0 0] 38)=w7 at *
  have dH:=hid hn
  have aB:Hid (pd≠pn):=dz.symm
  have aA:Hid (pn≠pd):=dz
  clear hn hal aO uu dz
  refine q02 (l':=#[true,true,true,true,true,true,true,true,false,true,true,false,true,false,false,false,false]) (by kernel_rfl) ?_
  revert aA
  revert aB
  revert jK
  revert dH
  revert aC
  revert pd
  revert pn
  revert w7
  exact jU.out
 refine Later.mk ?_
 intro w7 pn pd aC dH jK aB aA
 refine q03 (i:=8) (by kernel_rfl) rfl ?_
 intro K hK
 go_simp
 have dP:Hid _:=q1o w7 pn 0 bx 0 b2 0 0 xa ya KB (by omega) iR.out kR.out dH.out.2.1 (G.lt aC hbx) (G.lt aC hby) dH.out.2.2 (IntIs.G HX0.out hbx aC) (IntIs.G qW.out hby aC)
 go_wp2_with (go_at_call 50;refine Calls.mono (P:=Tryz.prog) dP.out ?_;intro e w8 hx;obtain⟨rfl,aI,hl,-,hkp⟩:=SetTo.step aC dH.out hx)
 have gZ:=hid hl
 have kZ:=hid (hkp _ _ aB.out jK.out)
 refine hK.out _ _ (Or.inr aI) ?_
 clear hK K hx hl hkp dP aC dH jK
 refine q02 (l':=#[true,true,true,true,true,true,true,true,true,true,true,false,true,false,false,false,false]) (by kernel_rfl) ?_
 revert aA
 revert aB
 revert kZ
 revert gZ
 revert aI
 revert pd
 revert pn
 revert w8
 exact xC.out
 refine Later.mk ?_
 intro w8 pn pd aI gZ kZ aB aA
 refine q03 (i:=11) (by kernel_rfl) rfl ?_
 intro K hK
 go_simp
 go_wp2_with (go_at_call 51;refine Calls.mono (P:=Tryz.prog) (q0J w w8 aI bx xa xb gL hbx nK.out) ?_;intro e w9 hx;obtain⟨p3,o3,rfl,hg,h72,eF⟩:=hx)
 refine hK.out _ _ (Or.inr (G.trans aI hg)) ?_
 clear hK K
 have aQ:=G.trans aI hg
 have bC:=hid h72
 have aL:p3≠pn:=by have h1:=gZ.out.1;have h2:=gZ.out.2.1;omega
 have dz:p3≠pd:=by have h1:=kZ.out.1;have h2:=kZ.out.2.1;omega
 have jW:=hid (gZ.out.G hg)
 have lX:=hid (kZ.out.G hg)
 have fK:Hid (p3≠pn):=aL
 have dL:Hid (p3≠pd):=dz
 clear hg h72 eF aI gZ kZ aL dz
 refine q02 (l':=#[true,true,true,true,true,true,true,true,true,true,true,true,true,false,false,false,false]) (by kernel_rfl) ?_
 revert dL
 revert aA
 revert fK
 revert aB
 revert bC
 revert lX
 revert jW
 revert aQ
 revert o3
 revert p3
 revert pd
 revert pn
 revert w9
 exact dO.out
 refine Later.mk ?_
 intro w9 pn pd p3 o3 aQ jW lX bC aB fK aA dL
 refine q03 (i:=13) (by kernel_rfl) rfl ?_
 intro K hK
 go_simp
 go_wp2_with (go_at_call 51;refine Calls.mono (P:=Tryz.prog) (q0J w w9 aQ b2 ya yb dK hby kv.out) ?_;intro e aU hx;obtain⟨p4,o4,rfl,hg,h72,eF⟩:=hx)
 refine hK.out _ _ (Or.inr (G.trans aQ hg)) ?_
 clear hK K
 have aH:=G.trans aQ hg
 have bg:=hid h72
 have aL:p4≠pn:=by have h1:=jW.out.1;have h2:=jW.out.2.1;omega
 have dz:p4≠pd:=by have h1:=lX.out.1;have h2:=lX.out.2.1;omega
 have jc:=hid (jW.out.G hg)
 have dU:=hid (lX.out.G hg)
 have aV:=hid (bC.out.G hg)
 have jA:Hid (p4≠pn):=aL
 have iU:Hid (p4≠pd):=dz
 clear hg h72 eF aQ jW lX bC aL dz
 refine q02 (l':=#[true,true,true,true,true,true,true,true,true,true,true,true,true,true,false,false,false]) (by kernel_rfl) ?_
 revert iU
 revert dL
 revert aA
 revert jA
 revert fK
 revert aB
 revert bg
 revert aV
 revert dU
 revert jc
 revert aH
 revert o4
 revert p4
 revert o3
 revert p3
 revert pd
 revert pn
 revert aU
 exact bX.out
 refine Later.mk ?_
 intro aU pn pd p3 o3 p4 o4 aH jc dU aV bg aB fK jA aA dL iU
 refine q03 (i:=14) (by kernel_rfl) rfl ?_
 intro K hK
 go_simp
 have dP:Hid _:=qC.out▸q1o aU pd 0 p3 o3 p4 o4 0 xb yb KB (by omega) kS.out iT.out dU.out.2.1 (aV.out.is aH).1 (bg.out.is aH).1 dU.out.2.2 (aV.out.is aH).2 (bg.out.is aH).2
 go_wp2_with (go_at_call 50;refine Calls.mono (P:=Tryz.prog) dP.out ?_;intro e dM hx;obtain⟨rfl,aY,hl,-,hkp⟩:=SetTo.step aH dU.out hx)
 have jo:=hid hl
 have uw:=hid (hkp _ _ aA.out jc.out)
 have gY:=hid (DI.keep aV.out (hkp _ _ dL.out))
 have gp:=hid (DI.keep bg.out (hkp _ _ iU.out))
 refine hK.out _ _ (Or.inr aY) ?_
 clear hK K hx hl hkp dP aH jc dU aV bg
 refine q03 (i:=15) (by kernel_rfl) rfl ?_
 intro K hK
 go_simp
 have wJ:Hid _:=q0Y dM bz pn 0 pd 0 s1 s2 (xa*ya) (xb*yb) (2*KB) (by omega) cu.out HD2.out HD0.out (G.lt aY hbz) uw.out.2.1 jo.out.2.1 (Fb.out.G hbz aY) uw.out.2.2 jo.out.2.2
 go_wp2_with (go_at_call 49;refine Calls.mono (P:=Tryz.prog) wJ.out ?_;intro e gq hx;obtain⟨rfl,k1,k2⟩:=NormTo.after aY hx)
 have iX:Hid _:=k2
 refine hK.out _ _ (Or.inl (by decide)) ?_
 clear hx k2 hK K wJ
 refine q03 (i:=16) (by kernel_rfl) rfl ?_
 intro K hK
 go_simp
 refine hK.out _ _ (Or.inl (by decide)) ?_
 clear hK K
 refine q0l (by kernel_rfl) ?_ _
 go_wp2_with fail
 go_ret
 exact⟨rfl,k1,iX.out⟩
set_option maxRecDepth 10000 in
set_option maxHeartbeats 8000000 in
theorem qb7 (w:World) (bx b2:Nat) (xa ya:Int) (xb yb:Nat) (KB:Nat) (hK:KB≤100000) (hx2:xa.natAbs<2^(32*KB)) (hy2:ya.natAbs<2^(32*KB)) (fZ:xb<2^(32*KB)) (gK:yb<2^(32*KB)) (hxb:0<xb) (hyb:0<yb)
  (hbx:bx<w.heap.size) (hby:b2<w.heap.size) (hx:RatV w bx xa xb) (hy:RatV w b2 ya yb):
  Calls Tryz.prog 65 #[.pointer (some ⟨bx,0,none⟩),.pointer (some ⟨b2,0,none⟩)] w fun e w'=>e= .returned (.int .i64 (cmpI (xa*(yb:Int)) (ya*(xb:Int))))∧G w w':=by
 have iR:Hid (xa.natAbs<2^(32*KB)):=hx2
 have kR:Hid (ya.natAbs<2^(32*KB)):=hy2
 have kS:Hid ((xb:Int).natAbs<2^(32*KB)):=by show (xb:Int).natAbs<2^(32*KB);rw[Int.natAbs_natCast];exact fZ
 have iT:Hid ((yb:Int).natAbs<2^(32*KB)):=by show (yb:Int).natAbs<2^(32*KB);rw[Int.natAbs_natCast];exact gK
 have HX0:Hid (IntIs w bx 0 xa):=hx.num
 have qW:Hid (IntIs w b2 0 ya):=hy.num
 have nK:Hid (RatV w bx xa xb):=hx
 have kv:Hid (RatV w b2 ya yb):=hy
 have gL:0<xb:=hxb
 have dK:0<yb:=hyb
 have wE:32*(2*KB)=32*KB+32*KB:=by omega
 have nH:Hid ((xa*(yb:Int)).natAbs<2^(32*(2*KB))):=by
  show (xa*(yb:Int)).natAbs<2^(32*(2*KB))
  rw[Int.natAbs_mul,Int.natAbs_natCast,wE,Nat.pow_add]
  exact Nat.mul_lt_mul'' hx2 gK
 have cu:Hid ((ya*(xb:Int)).natAbs<2^(32*(2*KB))):=by
  show (ya*(xb:Int)).natAbs<2^(32*(2*KB))
  rw[Int.natAbs_mul,Int.natAbs_natCast,wE,Nat.pow_add]
  exact Nat.mul_lt_mul'' hy2 fZ
 have GG:Hid (∀ w1 px ox py oy,px<w1.heap.size→py<w1.heap.size→IntIs w1 px ox (xb:Int)→IntIs w1 py oy (yb:Int)→_):=fun w1 px ox py oy h1 h2 h3 h4=>q4J w1 px ox py oy (xb:Int) (yb:Int) KB (by omega) kS.out iT.out h1 h2 h3 h4
 by_cases he:xb=yb
 ·subst he
  have h1:cmpI (xb:Int) (xb:Int)=0:=by unfold cmpI;rw[if_neg (by omega),if_pos rfl]
  rw[h1] at GG
  rw[q92 hxb]
  have TI:Hid (∀ w1,G w w1→_):=fun w1 g=>q4J w1 bx 0 b2 0 xa ya KB (by omega) iR.out kR.out (G.lt g hbx) (G.lt g hby) (IntIs.G HX0.out hbx g) (IntIs.G qW.out hby g)
  generalize cmpI xa ya=cv at *
  clear hx hy hx2 hy2 fZ gK hxb hyb h1 nH cu wE
  go_enter Tryz.func65,Tryz.ntmps65
  go_wp2_with fail
  refine Calls.mono (P:=Tryz.prog) (q0J w w (G.refl w) bx xa xb gL hbx nK.out) ?_
  rintro e w1 ⟨px,ox,rfl,hg1,kx,-⟩
  have Fx:Hid (DI w w1 px ox xb):=kx
  clear kx
  go_wp2_with fail
  refine Calls.mono (P:=Tryz.prog) (q0J w w1 hg1 b2 ya xb dK hby kv.out) ?_
  rintro e w2 ⟨py,oy,rfl,hg2,ky,-⟩
  have Bo:Hid (DI w w2 py oy xb):=ky
  have qF:Hid (DI w w2 px ox xb):=Fx.out.G hg2
  have hG2:=G.trans hg1 hg2
  clear ky Fx
  clear hg1 hg2
  go_wp2_with fail
  refine Calls.mono (P:=Tryz.prog) (GG.out w2 px ox py oy (qF.out.is hG2).1 (Bo.out.is hG2).1 (qF.out.is hG2).2 (Bo.out.is hG2).2) ?_
  rintro e w3 ⟨rfl,hg3⟩
  have hG3:=G.trans hG2 hg3
  clear hg3 hG2
  go_wp2_with fail
  refine q0K 6 (G w3) (by kernel_rfl) (by first|exact(G.refl _).drew|exact G.drew (by assumption)) ?_
  intro bE
  refine q00 0 (v:= ?_) rfl (by kernel_rfl) (fun _ _ _ h=>h) rfl ?_ ‹_› ?_
  rotate_left
  ·intro wq hwq
   first|(go_simp;done)|(go_simp;with_reducible rfl)
  try simp only[aput,List.set]
  refine q00 1 (v:= ?_) rfl (by kernel_rfl) (fun _ _ _ h=>h) rfl ?_ ‹_› ?_
  rotate_left
  ·intro wq hwq
   first|(go_simp;done)|(go_simp;with_reducible rfl)
  try simp only[aput,List.set]
  refine q00 2 (v:= ?_) rfl (by kernel_rfl) (fun _ _ _ h=>h) rfl ?_ ‹_› ?_
  rotate_left
  ·intro wq hwq
   first|(go_simp;done)|(go_simp;with_reducible rfl)
  try simp only[aput,List.set]
  refine q00 3 (v:= ?_) rfl (by kernel_rfl) (fun _ _ _ h=>h) rfl ?_ ‹_› ?_
  rotate_left
  ·intro wq hwq
   first|(go_simp;done)|(go_simp;with_reducible rfl)
  try simp only[aput,List.set]
  refine q00 4 (v:= ?_) rfl (by kernel_rfl) (fun _ _ _ h=>h) rfl ?_ ‹_› ?_
  rotate_left
  ·intro wq hwq
   first|(go_simp;done)|(go_simp;with_reducible rfl)
  try simp only[aput,List.set]
  refine q00 5 (v:= ?_) rfl (by kernel_rfl) (fun _ _ _ h=>h) rfl ?_ ‹_› ?_
  rotate_left
  ·intro wq hwq
   first|(go_simp;done)|(go_simp;with_reducible rfl)
  try simp only[aput,List.set]
  show q0E _ _ _ _ _ _ _ _ _ w3.drew
  generalize w3.drew=TJ at *
  have Fy:=G.trans hG3 bE
  refine q03 (i:=6) (by kernel_rfl) rfl ?_
  intro K hK
  go_simp
  go_wp2_with (go_at_call 142;refine Calls.mono (P:=Tryz.prog) (TI.out TJ Fy) ?_;rintro e w4 ⟨rfl,hg4⟩)
  refine hK.out _ _ (Or.inl (by decide)) ?_
  have hG4:=G.trans Fy hg4
  clear hK K
  refine q03 (i:=7) (by kernel_rfl) rfl ?_
  intro K hK
  go_simp
  refine hK.out _ _ (Or.inl (by decide)) ?_
  clear hK K
  refine q0l (by kernel_rfl) ?_ _
  go_wp2_with fail
  go_ret
  exact⟨rfl,hG4⟩
 ·have h1:(cmpI (xb:Int) (yb:Int)==0)=false:=by
   unfold cmpI
   by_cases h:(xb:Int)<yb
   ·rw[if_pos h];rfl
   ·rw[if_neg h,if_neg (by omega)];rfl
  have HT1:Hid _:=h1
  generalize cmpI (xb:Int) (yb:Int)=cd at *
  clear hx hy hx2 hy2 fZ gK hxb hyb h1 he wE
  have t1:=HT1.out
  go_enter Tryz.func65,Tryz.ntmps65
  go_wp2_with fail
  refine Calls.mono (P:=Tryz.prog) (q0J w w (G.refl w) bx xa xb gL hbx nK.out) ?_
  rintro e w1 ⟨px,ox,rfl,hg1,kx,-⟩
  have Fx:Hid (DI w w1 px ox xb):=kx
  clear kx
  go_wp2_with fail
  refine Calls.mono (P:=Tryz.prog) (q0J w w1 hg1 b2 ya yb dK hby kv.out) ?_
  rintro e w2 ⟨py,oy,rfl,hg2,ky,-⟩
  have Bo:Hid (DI w w2 py oy yb):=ky
  have qF:Hid (DI w w2 px ox xb):=Fx.out.G hg2
  have hG2:=G.trans hg1 hg2
  clear ky Fx
  clear hg1 hg2
  go_wp2_with fail
  refine Calls.mono (P:=Tryz.prog) (GG.out w2 px ox py oy (qF.out.is hG2).1 (Bo.out.is hG2).1 (qF.out.is hG2).2 (Bo.out.is hG2).2) ?_
  rintro e w3 ⟨rfl,hg3⟩
  have hG3:=G.trans hG2 hg3
  clear hg3 hG2 GG qF Bo
  have OA:Hid (RatV w3 bx xa xb):=RatV.G nK.out hbx hG3
  have GH:Hid (RatV w3 b2 ya yb):=RatV.G kv.out hby hG3
  clear nK kv
  go_wp2_with fail
  clear t1 HT1
  apply share
  ·intro LX
   refine q0K 14 (G w3) (by kernel_rfl) (by first|exact(G.refl _).drew|exact G.drew (by assumption)) ?_
   intro bE
   refine q00 1 (v:= ?_) rfl (by kernel_rfl) (fun _ _ _ h=>h) rfl ?_ ‹_› ?_
   rotate_left
   ·intro wq hwq
    first|(go_simp;done)|(go_simp;with_reducible rfl)
   try simp only[aput,List.set]
   refine q00 2 (v:= ?_) rfl (by kernel_rfl) (fun _ _ _ h=>h) rfl ?_ ‹_› ?_
   rotate_left
   ·intro wq hwq
    first|(go_simp;done)|(go_simp;with_reducible rfl)
   try simp only[aput,List.set]
   refine q00 3 (v:= ?_) rfl (by kernel_rfl) (fun _ _ _ h=>h) rfl ?_ ‹_› ?_
   rotate_left
   ·intro wq hwq
    first|(go_simp;done)|(go_simp;with_reducible rfl)
   try simp only[aput,List.set]
   refine q00 4 (v:= ?_) rfl (by kernel_rfl) (fun _ _ _ h=>h) rfl ?_ ‹_› ?_
   rotate_left
   ·intro wq hwq
    first|(go_simp;done)|(go_simp;with_reducible rfl)
   try simp only[aput,List.set]
   refine q00 8 (v:= ?_) rfl (by kernel_rfl) (fun _ _ _ h=>h) rfl ?_ ‹_› ?_
   rotate_left
   ·intro wq hwq
    first|(go_simp;done)|(go_simp;with_reducible rfl)
   try simp only[aput,List.set]
   refine q00 9 (v:= ?_) rfl (by kernel_rfl) (fun _ _ _ h=>h) rfl ?_ ‹_› ?_
   rotate_left
   ·intro wq hwq
    first|(go_simp;done)|(go_simp;with_reducible rfl)
   try simp only[aput,List.set]
   refine q00 10 (v:= ?_) rfl (by kernel_rfl) (fun _ _ _ h=>h) rfl ?_ ‹_› ?_
   rotate_left
   ·intro wq hwq
    first|(go_simp;done)|(go_simp;with_reducible rfl)
   try simp only[aput,List.set]
   refine q00 11 (v:= ?_) rfl (by kernel_rfl) (fun _ _ _ h=>h) rfl ?_ ‹_› ?_
   rotate_left
   ·intro wq hwq
    first|(go_simp;done)|(go_simp;with_reducible rfl)
   try simp only[aput,List.set]
   show q0E _ _ _ _ _ _ _ _ _ w3.drew
   have hS5:=bE
   generalize w3.drew=w5 at *
   clear bE
   apply share
   intro bX
   apply share
   intro dO
   apply share
   intro gM
   apply share
   intro jU
   apply share
   intro ny
   apply share
   intro nz
   refine q0H (i:=0) (j:=5) (l:=7) (by kernel_rfl) rfl rfl rfl ?_ ?_ ?_
   ·skip
    intro K hK
    go_simp
    refine hK.out _ _ (Or.inr (hS5.alloc _)) ?_
    clear hK K
    have hn:=NI.new hS5 38
    have hal:=(G.refl w5).alloc (.cells #[.bool false,.slice none 0 0] 38)
    have aO:=G.trans hS5 hal
    generalize w5.heap.size=p1 at *
    generalize w5.alloc (.cells #[.bool false,.slice none 0 0] 38)=w6 at *
    have mD:=hid hn
    clear hn hal
    refine q0c (i:=5) (j:=7) (by kernel_rfl) rfl rfl ?_ ?_
    ·skip
     intro K hK
     go_simp
     go_wp2_with (go_at_call 51;refine Calls.mono (P:=Tryz.prog) (q0J w3 w6 aO b2 ya yb dK (G.lt hG3 hby) GH.out) ?_;intro e w7 hx;obtain⟨p4,o4,rfl,hg,h72,eF⟩:=hx)
     refine hK.out _ _ (Or.inr (G.trans aO hg)) ?_
     clear hK K
     have aC:=G.trans aO hg
     have HD7:=hid h72
     have ae:p4≠p1:=by have h1:=mD.out.1;have h2:=mD.out.2.1;omega
     have bY:=hid (mD.out.G hg)
     have aa:Hid (p4≠p1):=ae
     clear hg h72 eF aO mD ae
     refine q02 (l':=#[true,true,true,true,true,true,false,false,true,true,true,true,false,false,false,false]) (by kernel_rfl) ?_
     revert aa
     revert HD7
     revert bY
     revert aC
     revert o4
     revert p4
     revert p1
     revert w7
     exact ny.out
    ·skip
     intro K hK
     go_simp
     refine hK.out _ _ (Or.inr (aO.alloc _)) ?_
     clear hK K
     have hn:=NI.new aO 38
     have hal:=(G.refl w6).alloc (.cells #[.bool false,.slice none 0 0] 38)
     have aC:=G.trans aO hal
     have bY:=hid (mD.out.G hal)
     have ae:w6.heap.size≠p1:=by have:=mD.out.2.1;omega
     generalize w6.heap.size=p2 at *
     generalize w6.alloc (.cells #[.bool false,.slice none 0 0] 38)=w7 at *
     have df:=hid hn
     have af:Hid (p1≠p2):=ae.symm
     have ag:Hid (p2≠p1):=ae
     clear hn hal aO mD ae
     refine q02 (l':=#[true,true,true,true,true,false,false,true,true,true,true,true,false,false,false,false]) (by kernel_rfl) ?_
     revert af
     revert ag
     revert df
     revert bY
     revert aC
     revert p2
     revert p1
     revert w7
     exact jU.out
   ·skip
    intro K hK
    go_simp
    go_wp2_with (go_at_call 51;refine Calls.mono (P:=Tryz.prog) (q0J w3 w5 hS5 b2 ya yb dK (G.lt hG3 hby) GH.out) ?_;intro e w6 hx;obtain⟨p4,o4,rfl,hg,h72,eF⟩:=hx)
    refine hK.out _ _ (Or.inr (G.trans hS5 hg)) ?_
    clear hK K
    have aO:=G.trans hS5 hg
    have HD6:=hid h72
    clear hg h72 eF
    refine q0c (i:=0) (j:=7) (by kernel_rfl) rfl rfl ?_ ?_
    ·skip
     intro K hK
     go_simp
     refine hK.out _ _ (Or.inr (aO.alloc _)) ?_
     clear hK K
     have hn:=NI.new aO 38
     have hal:=(G.refl w6).alloc (.cells #[.bool false,.slice none 0 0] 38)
     have aC:=G.trans aO hal
     have HD7:=hid (HD6.out.G hal)
     have aj:w6.heap.size≠p4:=by have:=(HD6.out.is aO).1;omega
     generalize w6.heap.size=p1 at *
     generalize w6.alloc (.cells #[.bool false,.slice none 0 0] 38)=w7 at *
     have bY:=hid hn
     have aa:Hid (p4≠p1):=aj.symm
     clear hn hal aO HD6 aj
     refine q02 (l':=#[true,true,true,true,true,true,false,false,true,true,true,true,false,false,false,false]) (by kernel_rfl) ?_
     revert aa
     revert HD7
     revert bY
     revert aC
     revert o4
     revert p4
     revert p1
     revert w7
     exact ny.out
    ·skip
     intro K hK
     go_simp
     refine hK.out _ _ (Or.inr (aO.alloc _)) ?_
     clear hK K
     have hn:=NI.new aO 38
     have hal:=(G.refl w6).alloc (.cells #[.bool false,.slice none 0 0] 38)
     have aC:=G.trans aO hal
     have HD7:=hid (HD6.out.G hal)
     have aj:w6.heap.size≠p4:=by have:=(HD6.out.is aO).1;omega
     generalize w6.heap.size=p2 at *
     generalize w6.alloc (.cells #[.bool false,.slice none 0 0] 38)=w7 at *
     have df:=hid hn
     have ah:Hid (p4≠p2):=aj.symm
     clear hn hal aO HD6 aj
     refine q02 (l':=#[false,true,true,true,true,true,false,true,true,true,true,true,false,false,false,false]) (by kernel_rfl) ?_
     revert ah
     revert df
     revert HD7
     revert aC
     revert p2
     revert o4
     revert p4
     revert w7
     exact nz.out
   ·skip
    intro K hK
    go_simp
    refine hK.out _ _ (Or.inr (hS5.alloc _)) ?_
    clear hK K
    have hn:=NI.new hS5 38
    have hal:=(G.refl w5).alloc (.cells #[.bool false,.slice none 0 0] 38)
    have aO:=G.trans hS5 hal
    generalize w5.heap.size=p2 at *
    generalize w5.alloc (.cells #[.bool false,.slice none 0 0] 38)=w6 at *
    have mE:=hid hn
    clear hn hal
    refine q0c (i:=0) (j:=5) (by kernel_rfl) rfl rfl ?_ ?_
    ·skip
     intro K hK
     go_simp
     refine hK.out _ _ (Or.inr (aO.alloc _)) ?_
     clear hK K
     have hn:=NI.new aO 38
     have hal:=(G.refl w6).alloc (.cells #[.bool false,.slice none 0 0] 38)
     have aC:=G.trans aO hal
     have df:=hid (mE.out.G hal)
     have ax:w6.heap.size≠p2:=by have:=mE.out.2.1;omega
     generalize w6.heap.size=p1 at *
     generalize w6.alloc (.cells #[.bool false,.slice none 0 0] 38)=w7 at *
     have bY:=hid hn
     have ag:Hid (p2≠p1):=ax.symm
     have af:Hid (p1≠p2):=ax
     clear hn hal aO mE ax
     refine q02 (l':=#[true,true,true,true,true,false,false,true,true,true,true,true,false,false,false,false]) (by kernel_rfl) ?_
     revert af
     revert ag
     revert df
     revert bY
     revert aC
     revert p2
     revert p1
     revert w7
     exact jU.out
    ·skip
     intro K hK
     go_simp
     go_wp2_with (go_at_call 51;refine Calls.mono (P:=Tryz.prog) (q0J w3 w6 aO b2 ya yb dK (G.lt hG3 hby) GH.out) ?_;intro e w7 hx;obtain⟨p4,o4,rfl,hg,h72,eF⟩:=hx)
     refine hK.out _ _ (Or.inr (G.trans aO hg)) ?_
     clear hK K
     have aC:=G.trans aO hg
     have HD7:=hid h72
     have ax:p4≠p2:=by have h1:=mE.out.1;have h2:=mE.out.2.1;omega
     have df:=hid (mE.out.G hg)
     have ah:Hid (p4≠p2):=ax
     clear hg h72 eF aO mE ax
     refine q02 (l':=#[false,true,true,true,true,true,false,true,true,true,true,true,false,false,false,false]) (by kernel_rfl) ?_
     revert ah
     revert df
     revert HD7
     revert aC
     revert p2
     revert o4
     revert p4
     revert w7
     exact nz.out
   refine Later.mk ?_
   intro w7 p4 o4 p2 aC HD7 df ah
   refine q03 (i:=0) (by kernel_rfl) rfl ?_
   intro K hK
   go_simp
   refine hK.out _ _ (Or.inr (aC.alloc _)) ?_
   clear hK K
   have hn:=NI.new aC 38
   have hal:=(G.refl w7).alloc (.cells #[.bool false,.slice none 0 0] 38)
   have aI:=G.trans aC hal
   have aZ:=hid (HD7.out.G hal)
   have eU:=hid (df.out.G hal)
   have aj:w7.heap.size≠p4:=by have:=(HD7.out.is aC).1;omega
   have ax:w7.heap.size≠p2:=by have:=df.out.2.1;omega
   generalize w7.heap.size=p1 at *
   generalize w7.alloc (.cells #[.bool false,.slice none 0 0] 38)=w8 at *
   have bD:=hid hn
   have aa:Hid (p4≠p1):=aj.symm
   have ag:Hid (p2≠p1):=ax.symm
   have af:Hid (p1≠p2):=ax
   clear hn hal aC HD7 df aj ax
   refine q02 (l':=#[true,true,true,true,true,true,false,true,true,true,true,true,false,false,false,false]) (by kernel_rfl) ?_
   revert ah
   revert af
   revert ag
   revert aa
   revert eU
   revert aZ
   revert bD
   revert aI
   revert p2
   revert o4
   revert p4
   revert p1
   revert w8
   exact gM.out
   refine Later.mk ?_
   intro w7 p1 p4 o4 aC bY HD7 aa
   refine q0c (i:=6) (j:=7) (by kernel_rfl) rfl rfl ?_ ?_
   ·skip
    intro K hK
    go_simp
    have dP:Hid _:=q1o w7 p1 0 bx 0 p4 o4 0 xa yb KB (by omega) iR.out iT.out bY.out.2.1 (G.lt (G.trans hG3 aC) hbx) (HD7.out.is aC).1 bY.out.2.2 (IntIs.G HX0.out hbx (G.trans hG3 aC)) (HD7.out.is aC).2
    go_wp2_with (go_at_call 50;refine Calls.mono (P:=Tryz.prog) dP.out ?_;intro e w8 hx;obtain⟨rfl,aI,hl,-,hkp⟩:=SetTo.step aC bY.out hx)
    have bD:=hid hl
    have aZ:=hid (DI.keep HD7.out (hkp _ _ aa.out))
    refine hK.out _ _ (Or.inr aI) ?_
    clear hK K hx hl hkp dP aC bY HD7
    refine q0c (i:=7) (j:=12) (by kernel_rfl) rfl rfl ?_ ?_
    ·skip
     intro K hK
     go_simp
     refine hK.out _ _ (Or.inr (aI.alloc _)) ?_
     clear hK K
     have hn:=NI.new aI 38
     have hal:=(G.refl w8).alloc (.cells #[.bool false,.slice none 0 0] 38)
     have aQ:=G.trans aI hal
     have cB:=hid (bD.out.G hal)
     have bC:=hid (aZ.out.G hal)
     have ae:w8.heap.size≠p1:=by have:=bD.out.2.1;omega
     have aj:w8.heap.size≠p4:=by have:=(aZ.out.is aI).1;omega
     generalize w8.heap.size=p2 at *
     generalize w8.alloc (.cells #[.bool false,.slice none 0 0] 38)=w9 at *
     have iL:=hid hn
     have af:Hid (p1≠p2):=ae.symm
     have ag:Hid (p2≠p1):=ae
     have ah:Hid (p4≠p2):=aj.symm
     clear hn hal aI bD aZ ae aj
     refine q02 (l':=#[true,true,true,true,true,true,true,true,true,true,true,true,false,false,false,false]) (by kernel_rfl) ?_
     revert ah
     revert af
     revert ag
     revert aa
     revert iL
     revert bC
     revert cB
     revert aQ
     revert p2
     revert o4
     revert p4
     revert p1
     revert w9
     exact dO.out
    ·skip
     intro K hK
     go_simp
     go_wp2_with (go_at_call 51;refine Calls.mono (P:=Tryz.prog) (q0J w3 w8 aI bx xa xb gL (G.lt hG3 hbx) OA.out) ?_;intro e w9 hx;obtain⟨p3,o3,rfl,hg,h72,eF⟩:=hx)
     refine hK.out _ _ (Or.inr (G.trans aI hg)) ?_
     clear hK K
     have aQ:=G.trans aI hg
     have pQ:=hid h72
     have ae:p3≠p1:=by have h1:=bD.out.1;have h2:=bD.out.2.1;omega
     have cB:=hid (bD.out.G hg)
     have bC:=hid (aZ.out.G hg)
     have aJ:Hid (p3≠p1):=ae
     clear hg h72 eF aI bD aZ ae
     refine q03 (i:=7) (by kernel_rfl) rfl ?_
     intro K hK
     go_simp
     refine hK.out _ _ (Or.inr (aQ.alloc _)) ?_
     clear hK K
     have hn:=NI.new aQ 38
     have hal:=(G.refl w9).alloc (.cells #[.bool false,.slice none 0 0] 38)
     have aH:=G.trans aQ hal
     have aX:=hid (cB.out.G hal)
     have aV:=hid (bC.out.G hal)
     have bg:=hid (pQ.out.G hal)
     have ae:w9.heap.size≠p1:=by have:=cB.out.2.1;omega
     have aj:w9.heap.size≠p4:=by have:=(bC.out.is aQ).1;omega
     have bN:w9.heap.size≠p3:=by have:=(pQ.out.is aQ).1;omega
     generalize w9.heap.size=p2 at *
     generalize w9.alloc (.cells #[.bool false,.slice none 0 0] 38)=aU at *
     have bn:=hid hn
     have af:Hid (p1≠p2):=ae.symm
     have ag:Hid (p2≠p1):=ae
     have ah:Hid (p4≠p2):=aj.symm
     have aK:Hid (p3≠p2):=bN.symm
     clear hn hal aQ cB bC pQ ae aj bN
     refine q02 (l':=#[true,true,true,true,true,true,true,true,true,true,true,true,true,false,false,false]) (by kernel_rfl) ?_
     revert aK
     revert ah
     revert af
     revert aJ
     revert ag
     revert aa
     revert bg
     revert bn
     revert aV
     revert aX
     revert aH
     revert o3
     revert p3
     revert p2
     revert o4
     revert p4
     revert p1
     revert aU
     exact bX.out
   ·skip
    intro K hK
    go_simp
    refine hK.out _ _ (Or.inr (aC.alloc _)) ?_
    clear hK K
    have hn:=NI.new aC 38
    have hal:=(G.refl w7).alloc (.cells #[.bool false,.slice none 0 0] 38)
    have aI:=G.trans aC hal
    have bD:=hid (bY.out.G hal)
    have aZ:=hid (HD7.out.G hal)
    have ae:w7.heap.size≠p1:=by have:=bY.out.2.1;omega
    have aj:w7.heap.size≠p4:=by have:=(HD7.out.is aC).1;omega
    generalize w7.heap.size=p2 at *
    generalize w7.alloc (.cells #[.bool false,.slice none 0 0] 38)=w8 at *
    have eU:=hid hn
    have af:Hid (p1≠p2):=ae.symm
    have ag:Hid (p2≠p1):=ae
    have ah:Hid (p4≠p2):=aj.symm
    clear hn hal aC bY HD7 ae aj
    refine q02 (l':=#[true,true,true,true,true,true,false,true,true,true,true,true,false,false,false,false]) (by kernel_rfl) ?_
    revert ah
    revert af
    revert ag
    revert aa
    revert eU
    revert aZ
    revert bD
    revert aI
    revert p2
    revert o4
    revert p4
    revert p1
    revert w8
    exact gM.out
   refine Later.mk ?_
   intro w7 p1 p2 aC bY df ag af
   refine q03 (i:=5) (by kernel_rfl) rfl ?_
   intro K hK
   go_simp
   go_wp2_with (go_at_call 51;refine Calls.mono (P:=Tryz.prog) (q0J w3 w7 aC b2 ya yb dK (G.lt hG3 hby) GH.out) ?_;intro e w8 hx;obtain⟨p4,o4,rfl,hg,h72,eF⟩:=hx)
   refine hK.out _ _ (Or.inr (G.trans aC hg)) ?_
   clear hK K
   have aI:=G.trans aC hg
   have aZ:=hid h72
   have ae:p4≠p1:=by have h1:=bY.out.1;have h2:=bY.out.2.1;omega
   have ax:p4≠p2:=by have h1:=df.out.1;have h2:=df.out.2.1;omega
   have bD:=hid (bY.out.G hg)
   have eU:=hid (df.out.G hg)
   have aa:Hid (p4≠p1):=ae
   have ah:Hid (p4≠p2):=ax
   clear hg h72 eF aC bY df ae ax
   refine q02 (l':=#[true,true,true,true,true,true,false,true,true,true,true,true,false,false,false,false]) (by kernel_rfl) ?_
   revert ah
   revert af
   revert ag
   revert aa
   revert eU
   revert aZ
   revert bD
   revert aI
   revert p2
   revert o4
   revert p4
   revert p1
   revert w8
   exact gM.out
   refine Later.mk ?_
   intro w8 p1 p4 o4 p2 aI bD aZ eU aa ag af ah
   refine q03 (i:=6) (by kernel_rfl) rfl ?_
   intro K hK
   go_simp
   have dP:Hid _:=q1o w8 p1 0 bx 0 p4 o4 0 xa yb KB (by omega) iR.out iT.out bD.out.2.1 (G.lt (G.trans hG3 aI) hbx) (aZ.out.is aI).1 bD.out.2.2 (IntIs.G HX0.out hbx (G.trans hG3 aI)) (aZ.out.is aI).2
   go_wp2_with (go_at_call 50;refine Calls.mono (P:=Tryz.prog) dP.out ?_;intro e w9 hx;obtain⟨rfl,aQ,hl,-,hkp⟩:=SetTo.step aI bD.out hx)
   have cB:=hid hl
   have bC:=hid (DI.keep aZ.out (hkp _ _ aa.out))
   have iL:=hid (hkp _ _ ag.out eU.out)
   refine hK.out _ _ (Or.inr aQ) ?_
   clear hK K hx hl hkp dP aI bD aZ eU
   refine q02 (l':=#[true,true,true,true,true,true,true,true,true,true,true,true,false,false,false,false]) (by kernel_rfl) ?_
   revert ah
   revert af
   revert ag
   revert aa
   revert iL
   revert bC
   revert cB
   revert aQ
   revert p2
   revert o4
   revert p4
   revert p1
   revert w9
   exact dO.out
   refine Later.mk ?_
   intro w9 p1 p4 o4 p2 aQ cB bC iL aa ag af ah
   refine q03 (i:=12) (by kernel_rfl) rfl ?_
   intro K hK
   go_simp
   go_wp2_with (go_at_call 51;refine Calls.mono (P:=Tryz.prog) (q0J w3 w9 aQ bx xa xb gL (G.lt hG3 hbx) OA.out) ?_;intro e aU hx;obtain⟨p3,o3,rfl,hg,h72,eF⟩:=hx)
   refine hK.out _ _ (Or.inr (G.trans aQ hg)) ?_
   clear hK K
   have aH:=G.trans aQ hg
   have bg:=hid h72
   have ae:p3≠p1:=by have h1:=cB.out.1;have h2:=cB.out.2.1;omega
   have ax:p3≠p2:=by have h1:=iL.out.1;have h2:=iL.out.2.1;omega
   have aX:=hid (cB.out.G hg)
   have aV:=hid (bC.out.G hg)
   have bn:=hid (iL.out.G hg)
   have aJ:Hid (p3≠p1):=ae
   have aK:Hid (p3≠p2):=ax
   clear hg h72 eF aQ cB bC iL ae ax
   refine q02 (l':=#[true,true,true,true,true,true,true,true,true,true,true,true,true,false,false,false]) (by kernel_rfl) ?_
   revert aK
   revert ah
   revert af
   revert aJ
   revert ag
   revert aa
   revert bg
   revert bn
   revert aV
   revert aX
   revert aH
   revert o3
   revert p3
   revert p2
   revert o4
   revert p4
   revert p1
   revert aU
   exact bX.out
   refine Later.mk ?_
   intro aU p1 p4 o4 p2 p3 o3 aH aX aV bn bg aa ag aJ af ah aK
   refine q03 (i:=13) (by kernel_rfl) rfl ?_
   intro K hK
   go_simp
   have dP:Hid _:=q1o aU p2 0 b2 0 p3 o3 0 ya xb KB (by omega) kR.out kS.out bn.out.2.1 (G.lt (G.trans hG3 aH) hby) (bg.out.is aH).1 bn.out.2.2 (IntIs.G qW.out hby (G.trans hG3 aH)) (bg.out.is aH).2
   go_wp2_with (go_at_call 50;refine Calls.mono (P:=Tryz.prog) dP.out ?_;intro e dM hx;obtain⟨rfl,aY,hl,-,hkp⟩:=SetTo.step aH bn.out hx)
   have fJ:=hid hl
   have gN:=hid (hkp _ _ af.out aX.out)
   have gY:=hid (DI.keep aV.out (hkp _ _ ah.out))
   have gp:=hid (DI.keep bg.out (hkp _ _ aK.out))
   refine hK.out _ _ (Or.inr aY) ?_
   clear hK K hx hl hkp dP aH aX aV bn bg
   refine q03 (i:=14) (by kernel_rfl) rfl ?_
   intro K hK
   go_simp
   go_wp2_with (go_at_call 142;refine Calls.mono (P:=Tryz.prog) (q4J dM p1 0 p2 0 (xa*(yb:Int)) (ya*(xb:Int)) (2*KB) (by omega) nH.out cu.out gN.out.2.1 fJ.out.2.1 gN.out.2.2 fJ.out.2.2) ?_;rintro e gq ⟨rfl,hg⟩)
   refine hK.out _ _ (Or.inl (by decide)) ?_
   clear hK K
   have jV:=G.trans aY hg
   have iP:=hid (gN.out.G hg)
   have mf:=hid (gY.out.G hg)
   have iO:=hid (fJ.out.G hg)
   have mg:=hid (gp.out.G hg)
   clear hg aY gN gY fJ gp
   refine q03 (i:=15) (by kernel_rfl) rfl ?_
   intro K hK
   go_simp
   refine hK.out _ _ (Or.inl (by decide)) ?_
   clear hK K
   refine q0l (by kernel_rfl) ?_ _
   revert aK
   revert ah
   revert af
   revert aJ
   revert ag
   revert aa
   revert mg
   revert iO
   revert mf
   revert iP
   revert jV
   revert o3
   revert p3
   revert p2
   revert o4
   revert p4
   revert p1
   revert gq
   exact LX.out
  ·skip
   refine Later.mk ?_
   intro gq p1 p4 o4 p2 p3 o3 jV iP mf iO mg aa ag aJ af ah aK
   have hG:=G.trans hG3 jV
   go_wp2_with fail
   go_ret
   exact⟨rfl,hG⟩
/-- Words laid over a row of our own. -/
theorem q7j {w:World} {b:Nat}:∀ {m l:List Nat} {o:Nat},Own w b l→okw m→o+m.length≤l.length→
  Own (w.setCells b o (m.map fun d=> .int .u32 (d:Nat))) b (l.take o++(m++l.drop (o+m.length))):=by
 intro m
 induction m generalizing w with
 |nil=>intro l o h _ _;simpa [World.setCells] using h
 |cons d m ih=>
  intro l o h hm hl
  obtain⟨hd,hm'⟩:=okw_cons.1 hm
  simp only[List.length_cons] at hl
  have h1:=Own.set h o d (by omega) hd
  have h2:=ih (l:=l.set o d) (o:=o+1) h1 hm' (by rw[List.length_set];omega)
  rw[List.map_cons]
  simp only[World.setCells]
  have e:(l.set o d).take (o+1)++(m++(l.set o d).drop (o+1+m.length))=l.take o++(d::m++l.drop (o+(m.length+1))):=by
   rw[q1m (by rw[List.length_set];omega),q0G,q0f (by omega),List.drop_set_of_lt (by omega)]
   simp [Nat.add_comm,Nat.add_left_comm]
  rw[List.length_cons,← e]
  exact h2
theorem q79 {w0:World} {b:Nat} (hb:w0.heap.size≤b):∀ (cs:List Value) (w:World) (o:Nat),G w0 w→G w0 (w.setCells b o cs)
 |[],_,_,h=>h
 |v::cs,_,o,h=>q79 hb cs _ _ (G.setCell h (p:=⟨b,o,none⟩) hb v)
theorem q7a {w:World} {b o:Nat} {l:List Nat} (h:Row w b o l):∀ j v,(l.map fun d=>Value.int .u32 (d:Nat))[j]? =some v→w.cell? ((⟨b,o,none⟩:Addr).add j)=some v:=by
 intro j u hj
 rw[List.getElem?_map] at hj
 obtain⟨d,hd,rfl⟩:=Option.map_eq_some_iff.1 hj
 have:=h j (List.getElem?_eq_some_iff.1 hd).1
 rw[List.getD_eq_getElem?_getD,hd] at this
 rw[show ((⟨b,o,none⟩:Addr).add j)=⟨b,o+j,none⟩ from Addr.add_lit ..]
 exact this
theorem q7y (l:List Nat):∀ u∈(l.map fun d=>Value.int .u32 (d:Nat)),u.oneCell'=true:=by
 intro u hu
 obtain⟨d,-,rfl⟩:=List.mem_map.1 hu
 rfl
/-- 'copy' of a slice to the beginning of a row of our own that is newer than w0. -/
theorem q70 {w0 w:World} {b n:Nat} {zs l:List Nat} {va:Value} (h:Own w b zs) (hz:zs.length=n) (ha:Sl w va l) (hl:l.length≤n) (g:G w0 w) (hb:w0.heap.size≤b) (ty:TypeId):
  ∃ w',(Builtin.copy_ #[36,36] ty #[.slice (some ⟨b,0,none⟩) n n,va]).run Tryz.prog w= .ok (goInt l.length) w'∧Own w' b (l++zs.drop l.length)∧G w0 w':=by
 have hok:=ha.1
 rcases Sl.cases ha with ⟨rfl,a,c,rfl⟩|⟨hne,b1,o1,c1,rfl,hc1,hb1,hr1⟩
 ·exact⟨w,run_copy_none w 36 36 ty 187 _ _ _ _ _ _ Tryz.underlying36 (by kernel_rfl) (by simp),h,g⟩
 ·have hc:=q7j (o:=0) h hok (by omega)
  rw[List.take_zero,List.nil_append,Nat.zero_add] at hc
  have hrun:=run_copy_cells (P:=Tryz.prog) w 36 36 ty 187 b 0 n n ⟨b1,o1,none⟩ l.length c1 (l.map fun d=> .int .u32 (d:Nat)) Tryz.underlying36 (by kernel_rfl)
   (by rw[List.length_map];exact(Nat.min_eq_left hl).symm) (q7a hr1)
   (fun i hi=>by rw[List.length_map] at hi;rw[Nat.zero_add,Own.cell h (by omega)];rfl)
   (fun i hi=>by rw[List.length_map] at hi;rw[Nat.zero_add];exact Own.frozen h (by omega)) (q7y l)
  rw[List.length_map] at hrun
  exact⟨_,hrun,hc,q79 hb _ _ _ g⟩
theorem q55 (n:Nat):val (List.replicate n 0)=0:=by
 induction n with
 |zero=>rfl
 |succ n ih=>rw[List.replicate_succ,val,ih]
theorem qcj (w:World) (bx ox n:Nat) (v:Value) (l:List Nat) (hn:n≤1048576) (hl:Sl w v l) (hln:l.length≤n) (hx:q5C w bx ox false v) (hbx:bx<w.heap.size):
  Calls Tryz.prog 205 #[.pointer (some ⟨bx,ox,none⟩),.int .i64 (n:Int)] w fun e w'=>∃ b cs,e= .returned (.slice (some ⟨b,0,none⟩) n n)∧G w w'∧w.heap.size≤b∧Own w' b cs∧cs.length=n∧cs=l++List.replicate (n-l.length) 0:=by
 obtain⟨c1,c2,-,-⟩:=hx
 have hmk:=q1c n (by omega)
 have hgm:G w (w.alloc (.cells (madeCells #[.int .u32 0] n) 187)):=(G.refl _).alloc _
 obtain⟨w1,hrun,hown,hG⟩:=q70 (n:=n) (va:=v) (q0B w n 187) (by simp) (hl.G hgm) hln hgm (Nat.le_refl _) 3
 rw[List.drop_replicate] at hown
 have HO:Hid _:=hown
 have d1:=hG.cell hbx c1
 have hpl:(l++List.replicate (n-l.length) 0).length=n:=by simp;omega
 have FZ:Hid _:=hpl
 clear hown hl hln hn hpl
 generalize l++List.replicate (n-l.length) 0=cs at *
 go_enter Tryz.func205,Tryz.ntmps205
 go_wp2_with fail
 go_ret
 exact⟨w.heap.size,cs,rfl,hG,Nat.le_refl _,HO.out,FZ.out,rfl⟩
theorem of_c (w:World) (b o p n:Nat) (s0:Int) (cs:List Nat) (hn:n+1≤1048576) (hb:b<w.heap.size) (hz:IntIs w b o s0) (hown:Own w p cs) (hcs:cs.length=n+1) (htop:cs.getD n 0<2^31):
  Calls Tryz.prog 206 #[.pointer (some ⟨b,o,none⟩),.slice (some ⟨p,0,none⟩) (n+1) (n+1)] w (SetTo w b o (val cs:Nat)):=by
 have HZ:Hid _:=hz
 have hT:Hid _:=q0F hown hcs (by omega)
 have hnb:(n:Int)≤1048575:=by omega
 have hc:=Own.cell hown (i:=n) (by rw[hcs];omega)
 have hlt:((cs.getD n 0:Nat):Int)/2147483648=0:=by omega
 generalize val cs=V at *
 generalize cs.getD n 0=z at *
 clear hz hown hcs htop
 go_enter Tryz.func206,Tryz.ntmps206
 go_wp2_with fail
 refine Calls.mono (P:=Tryz.prog) hT.out ?_
 rintro e w2 ⟨v1,rfl,hg2,hn2⟩
 go_wp2_with fail
 refine Calls.mono (P:=Tryz.prog) (q0S (w0:=w) hb hg2 (q1f _ b o _ s0 _ _ (IntIs.G HZ.out hb hg2) hn2)) ?_
 rintro e w3 ⟨rfl,hs3⟩
 go_wp2_with fail
 go_ret
 exact hs3
theorem q64 {cs:List Nat} {i q s:Nat} (hok:okw cs) (hi:i=32*q+s) (hs:s≤31) (hq:q<cs.length):val cs/2^i%2=cs.getD q 0/2^s%2:=by
 have e:val cs/2^i=val (cs.drop q)/2^s:=by
  rw[q1l hok q,Nat.div_div_eq_div_mul,← Nat.pow_add,← hi]
 rw[e,q0g hq]
 show (cs.getD q 0+2^32*val (cs.drop (q+1)))/2^s%2=_
 have h2:2^32*val (cs.drop (q+1))=2^s*(2*(2^(31-s)*val (cs.drop (q+1)))):=by
  rw[← Nat.mul_assoc 2,← Nat.pow_succ',← Nat.mul_assoc,← Nat.pow_add,show s+(31-s+1)=32 from by omega]
 rw[h2,Nat.add_mul_div_left _ _ (Nat.two_pow_pos _),Nat.add_mul_mod_self_left]
theorem q6v {cs:List Nat} {q y:Nat} (hq:q<cs.length):val (cs.set q (cs.getD q 0+y))=val cs+2^(32*q)*y:=by
 rw[q0s (l:=cs.set q (cs.getD q 0+y)) (k:=q) (by rw[List.length_set];exact hq),q0s (l:=cs) hq,q0G,q0f hq,List.drop_set_of_lt (by omega)]
 rw[Nat.mul_add,Nat.mul_add,Nat.mul_add]
 omega
theorem q5g {x s:Nat} (hx:x<2^32) (hb:x/2^s%2=0) (hs:s≤31):bits .andNot .u32 (x:Int) (2^s%4294967296)=(x:Int)∧bits .or .u32 (x:Int) (bits .and .u64 1 1%4294967296*2^s%4294967296)=((x+2^s:Nat):Int)∧x+2^s<2^32:=by
 have hp:2^s≤2^31:=Nat.pow_le_pow_right (by omega) hs
 have e1:((2:Int)^s%4294967296)=((2^s:Nat):Int):=by
  rw[FT.ipow]
  generalize 2^s=p at *
  omega
 have e2:bits .and .u64 1 1%4294967296*2^s%4294967296=((2^s:Nat):Int):=by
  rw[show bits .and .u64 1 1=1 from by decide,FT.ipow]
  generalize 2^s=p at *
  omega
 have I4:=Nat.div_add_mod x (2^(s+1))
 have hlo:x%2^(s+1)=x%2^s:=by
  rw[Nat.pow_succ,Nat.mod_mul,hb,Nat.mul_zero,Nat.add_zero]
 have hl2:x%2^s<2^s:=Nat.mod_lt _ (Nat.two_pow_pos s)
 have hor:x|||2^s=x+2^s:=by
  have h1:x=2^(s+1)*(x/2^(s+1))|||x%2^s:=by
   rw[nat_join (s+1) _ _ (Nat.mul_mod_right _ _) (by rw[Nat.pow_succ];omega),← hlo]
   exact I4.symm
  have h2:x|||2^s=2^(s+1)*(x/2^(s+1))|||(2^s|||x%2^s):=by
   rw[Nat.or_comm (2^s),← Nat.or_assoc,← h1]
  rw[h2,nat_join s (2^s) _ (Nat.mod_self _) hl2,nat_join (s+1) _ _ (Nat.mul_mod_right _ _) (by rw[Nat.pow_succ];omega),← hlo]
  omega
 refine⟨?_,?_,?_⟩
 ·rw[e1,u32_andNot_nat x _ hx (by omega)]
  congr 1
  apply Nat.eq_of_testBit_eq
  intro j
  rw[Nat.testBit_and,show 4294967295-2^s=2^32-(2^s+1) from by omega,Nat.testBit_two_pow_sub_succ (by omega),Nat.testBit_two_pow]
  by_cases hj:s=j
  ·subst hj
   rw[Nat.testBit_eq_decide_div_mod_eq,hb]
   simp
  ·by_cases h32:j<32
   ·simp [hj,h32]
   ·rw[Nat.testBit_lt_two_pow (Nat.lt_of_lt_of_le hx (Nat.pow_le_pow_right (by omega) (by omega)))]
    simp
 ·rw[e2,u32_or_nat x _ hx (by omega),hor]
 ·rw[← hor];exact Nat.or_lt_two_pow hx (by omega)
theorem q8H (w:World) (b bx ox i:Nat) (s0:Int) (a K:Nat) (hK:K≤500000) (hi:i≤10000000) (ha2:a<2^(32*K)) (hbit:a/2^i%2=0) (hb:b<w.heap.size) (hbx:bx<w.heap.size)
  (hz:IntIs w b 0 s0) (hx:IntIs w bx ox (a:Int)):
  Calls Tryz.prog 147 #[.pointer (some ⟨b,0,none⟩),.pointer (some ⟨bx,ox,none⟩),.int .i64 (i:Int),.int .u64 1] w (SetTo w b 0 ((a+2^i:Nat):Int)):=by
 obtain⟨nn,v,a',hat,hv,h1,h2⟩:=hx
 have ha:=q0Q h1
 rw[Int.natAbs_natCast] at ha
 subst ha
 have hn:nn=false:=by
  cases nn
  ·rfl
  ·have:=h2 rfl
   unfold sg at h1
   simp at h1
   omega
 subst hn
 obtain⟨l,hl,hcl,hval⟩:=hv
 rw[← hval] at ha2 hbit ⊢
 have hll:=q05 hcl ha2
 obtain⟨pa,ca,rfl,dQ,-⟩:=q0m hl
 generalize hj:l.length=j at *
 obtain⟨n,hnn⟩:∃ n:Nat,n=max j (i/32+1):=⟨_,rfl⟩
 have hd1:(i:Int)/32=((i/32:Nat):Int):=by omega
 have hd2:(i:Int)%32=((i%32:Nat):Int):=by omega
 have Pb:IntKind.u64.wrap (i:Int)=i:=by rw[IntKind.wrap_u64];omega
 generalize hq:i/32=q at *
 generalize hsn:i%32=s at *
 have mI:Hid _:=qcj w bx ox (n+1) _ l (by omega) (by rw[← hj] at *;exact hl) (by omega) hat hbx
 obtain⟨c1,c2,-,-⟩:=hat
 have hib:(i:Int)≤10000000:=by omega
 have uC:(q:Int)≤312500:=by omega
 have hjb:(j:Int)≤500000:=by omega
 have hnb:(n:Int)≤500000:=by omega
 have MN:(q:Int)<n:=by omega
 have HI:Hid _:=And.intro hq hsn
 have HB:Hid _:=hbit
 have nG:Hid _:=hb
 have HZ:Hid _:=hz
 clear hK ha2 hll hcl hb hq hsn hbit hz h1 h2 hval
 by_cases hjq:q+1≤j
 ·obtain rfl:n=j:=by omega
  have t0:(q:Int)+1≤n:=by omega
  clear hnn
  go_enter Tryz.func147,Tryz.ntmps147
  go_wp2_with fail
  refine Calls.mono (P:=Tryz.prog) mI.out ?_
  rintro e w1 ⟨p,cs,rfl,g1,hp,hown,hlen,hcs⟩
  have hc:=Own.cell hown (i:=q) (by omega)
  have hf:=Own.frozen hown (i:=q) (by omega)
  have hx32:=q04 hown.1 q
  have hv0:val cs=val l:=by rw[hcs,val_append,q55,Nat.mul_zero,Nat.add_zero]
  have hgn:cs.getD n 0=0:=by
   rw[hcs,List.getD_eq_getElem?_getD,List.getElem?_append_right (by omega),List.getElem?_replicate]
   split<;>rfl
  have hbw:=q64 hown.1 (i:=i) (q:=q) (s:=s) (by have:=HI.out;omega) (by have:=HI.out;omega) (by omega)
  rw[hv0,HB.out] at hbw
  have hset:val (cs.set q (cs.getD q 0+2^s))=val l+2^i:=by rw[q6v (by omega),hv0,show i=32*q+s from by have:=HI.out;omega,Nat.pow_add]
  generalize vC:cs.getD q 0=x at *
  obtain⟨Pd,Pe,I5⟩:=q5g (s:=s) hx32 hbw.symm (by have:=HI.out;omega)
  have HOW:Hid _:=Own.set (Own.set hown q x (by omega) hx32) q (x+2^s) (by rw[List.length_set];omega) I5
  have HF:Hid ((((cs.set q x).set q (x+2^s)).getD n 0<2^31∧((cs.set q x).set q (x+2^s)).length=n+1)∧val ((cs.set q x).set q (x+2^s))=val l+2^i):=by
   rw[List.set_set]
   refine⟨⟨?_,by rw[List.length_set];exact hlen⟩,hset⟩
   rw[List.getD_eq_getElem?_getD,List.getElem?_set_ne (by omega),← List.getD_eq_getElem?_getD,hgn]
   omega
  have hxi:(x:Int)≤4294967295:=by omega
  have hG2:G w _:=G.setCell (G.setCell g1 (p:=⟨p,q,none⟩) hp (.int .u32 (x:Int))) (p:=⟨p,q,none⟩) hp (.int .u32 ((x+2^s:Nat):Int))
  generalize (cs.set q x).set q (x+2^s)=ds at *
  clear hown hcs hset hgn hv0 hbw
  go_wp2_with fail
  refine Calls.mono (P:=Tryz.prog) (q0S (w0:=w) nG.out hG2 (of_c _ b 0 p n s0 ds (by omega) (G.lt hG2 nG.out) (IntIs.G HZ.out nG.out hG2) HOW.out HF.out.1.2 HF.out.1.1)) ?_
  rintro e w3 ⟨rfl,hs3⟩
  rw[HF.out.2] at hs3
  go_wp2_with fail
  go_ret
  exact hs3
 ·have hnq:n=q+1:=by omega
  have Pf:Hid _:=hnq
  have Pg:j<n:=by omega
  clear hnq hjq
  have t1:(q:Int)+1=n:=by have:=Pf.out;omega
  have t0:(j:Int)<n:=by omega
  clear hnn
  go_enter Tryz.func147,Tryz.ntmps147
  go_wp2_with fail
  refine Calls.mono (P:=Tryz.prog) mI.out ?_
  rintro e w1 ⟨p,cs,rfl,g1,hp,hown,hlen,hcs⟩
  have hc:=Own.cell hown (i:=q) (by omega)
  have hf:=Own.frozen hown (i:=q) (by omega)
  have hx32:=q04 hown.1 q
  have hv0:val cs=val l:=by rw[hcs,val_append,q55,Nat.mul_zero,Nat.add_zero]
  have hgn:cs.getD n 0=0:=by
   rw[hcs,List.getD_eq_getElem?_getD,List.getElem?_append_right (by omega),List.getElem?_replicate]
   split<;>rfl
  have hbw:=q64 hown.1 (i:=i) (q:=q) (s:=s) (by have:=HI.out;omega) (by have:=HI.out;omega) (by omega)
  rw[hv0,HB.out] at hbw
  have hset:val (cs.set q (cs.getD q 0+2^s))=val l+2^i:=by rw[q6v (by omega),hv0,show i=32*q+s from by have:=HI.out;omega,Nat.pow_add]
  generalize vC:cs.getD q 0=x at *
  obtain⟨Pd,Pe,I5⟩:=q5g (s:=s) hx32 hbw.symm (by have:=HI.out;omega)
  have HOW:Hid _:=Own.set (Own.set hown q x (by omega) hx32) q (x+2^s) (by rw[List.length_set];omega) I5
  have HF:Hid ((((cs.set q x).set q (x+2^s)).getD n 0<2^31∧((cs.set q x).set q (x+2^s)).length=n+1)∧val ((cs.set q x).set q (x+2^s))=val l+2^i):=by
   rw[List.set_set]
   refine⟨⟨?_,by rw[List.length_set];exact hlen⟩,hset⟩
   rw[List.getD_eq_getElem?_getD,List.getElem?_set_ne (by omega),← List.getD_eq_getElem?_getD,hgn]
   omega
  have hxi:(x:Int)≤4294967295:=by omega
  have hG2:G w _:=G.setCell (G.setCell g1 (p:=⟨p,q,none⟩) hp (.int .u32 (x:Int))) (p:=⟨p,q,none⟩) hp (.int .u32 ((x+2^s:Nat):Int))
  generalize (cs.set q x).set q (x+2^s)=ds at *
  clear hown hcs hset hgn hv0 hbw
  go_wp2_with fail
  refine Calls.mono (P:=Tryz.prog) (q0S (w0:=w) nG.out hG2 (of_c _ b 0 p n s0 ds (by omega) (G.lt hG2 nG.out) (IntIs.G HZ.out nG.out hG2) HOW.out HF.out.1.2 HF.out.1.1)) ?_
  rintro e w3 ⟨rfl,hs3⟩
  rw[HF.out.2] at hs3
  go_wp2_with fail
  go_ret
  exact hs3
end Go.Proofs.YtemmkninoiclfaaGreatDoor
