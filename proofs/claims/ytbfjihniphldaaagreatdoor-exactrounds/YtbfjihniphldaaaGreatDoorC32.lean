/- What is proved here: contracts of the reference: powers of two as ratios, over this seat's translation.
What is proved here: contracts of the reference's ratios: den of any Rat, laid or new, over this seat's translation.
What is proved here: contracts of the reference's ratios: Add of Rat, of laid ones and of new ones, over this seat's translation.
What is proved here: contracts of the reference's ratios: Mul of Rat, of laid ones and of new ones, over this seat's translation.
What is proved here: contracts of the reference's ratios: Cmp of Rat, of laid ones and of new ones, over this seat's translation.
What is proved here: contracts of the reference's big numbers: 'copy' of words, low, of, SetBit of an Int that isn't below 0, over this seat's translation. -/
import Derived.Test.YtbfjihniphldaaaGreatDoorC14
import Derived.Test.YtbfjihniphldaaaGreatDoorC31
import Derived.Test.YtbfjihniphldaaaGreatDoorC7
import Derived.Test.YtbfjihniphldaaaGreatDoorC27
import Derived.Laws.IdiomCopy
namespace Go.Proofs.YtbfjihniphldaaaGreatDoor
open Go.ChangeShapes Go.WideShapes Go.ChangeAt Go.RowKit
open BN
/-- A call hands back a new Rat; nothing that was there has turned. -/
def RetR (w:World) (sa:Int) (sb:Nat) (e:Ending) (w':World):Prop:=∃ p,e= .returned (.pointer (some ⟨p,0,none⟩))∧G w w'∧w.heap.size≤p∧p<w'.heap.size∧RatIs w' p sa (sb:Int)
theorem NormTo.ret {w0 w:World} {b:Nat} {sa:Int} {sb:Nat} {e:Ending} {w':World} (g:G w0 w) (hb:w0.heap.size≤b) (hs:b<w.heap.size) (h:NormTo w b sa sb e w'):RetR w0 sa sb e w':=
 ⟨b,h.1,GX.fresh g h.2.1 hb,hb,Nat.lt_of_lt_of_le hs h.2.1.size,h.2.2⟩
theorem qa8 (w:World) (k K:Nat) (hk:k≤6000) (hK:K≤300) (Ht:k<32*K):Calls Tryz.prog 74 #[.int .i64 (k:Int)] w (RetR w (2^k:Nat) 1):=by
 have hkb:(k:Int)≤6000:=by omega
 have Hu:Hid (2^k<2^(32*K)):=Nat.pow_lt_pow_right (by omega) Ht;have oI:Hid (1≤K∧1<2^(32*K)):=⟨by omega,Nat.one_lt_two_pow (by omega)⟩;go_enter Tryz.func74,Tryz.ntmps74;go_wp2_with fail;have hn0:=NI.new (G.refl w) 38;have bK:=(G.refl w).alloc (.cells #[.bool false,.slice none 0 0] 38);generalize w.heap.size=pn at *;generalize w.alloc (.cells #[.bool false,.slice none 0 0] 38)=wa at *;refine q00 (q1q wa 1 (by omega)) ?_;intro e w1 h;obtain⟨p1,rfl,hg1,hp1,hp2,hpi⟩:=h;have hG1:=G.trans bK hg1;have hN1:=hn0.G hg1;have HL:Hid _:=q1L w1 pn 0 p1 0 k 0 1 K (by omega) (by omega) oI.out.2 hN1.2.1 hp2 hN1.2.2 hpi;have ny:Hid (NI w w1 pn 0):=hN1;clear hn0 bK hg1 hp1 hp2 hpi hN1;go_wp2_with fail;refine q00 HL.out ?_;intro e w2 hs;obtain⟨rfl,hG2,ik,-,-⟩:=SetTo.step hG1 ny.out hs;rw[show (1:Int)*2^k=((2^k:Nat):Int) from by push_cast;rw[Int.one_mul]] at ik;have bW:Hid (NI w w2 pn ((2^k:Nat):Int)):=ik;clear hs ik HL ny hG1;go_wp2_with fail;have hr0:=q2S w2 40;have hga:=(G.refl w2).alloc (.cells #[.bool false,.slice none 0 0,.bool false,.slice none 0 0] 40);have fV:=bW.out.G hga;have hG3:=G.trans hG2 hga;have hzs:w2.heap.size<(w2.alloc (.cells #[.bool false,.slice none 0 0,.bool false,.slice none 0 0] 40)).heap.size:=by simp
 have hz0:w.heap.size≤w2.heap.size:=hG2.size;generalize w2.heap.size=pz at *;generalize w2.alloc (.cells #[.bool false,.slice none 0 0,.bool false,.slice none 0 0] 40)=w3 at *;have HS:Hid _:=q9o w3 pz pn 0 0 0 ((2^k:Nat):Int) K (by omega) oI.out.1 (by rw[Int.natAbs_natCast];exact Hu.out) hzs fV.2.1 hr0 fV.2.2;clear hr0 hga fV bW hG2;refine q00 HS.out ?_;intro e w4 hs;obtain⟨p,rfl,k1,k2,k3,k4⟩:=NormTo.ret hG3 hz0 hzs hs;have xL:Hid (RatIs w4 p ((2^k:Nat):Int) ((1:Nat):Int)):=k4;clear hs k4 HS;go_wp2_with fail;go_ret;exact⟨p,rfl,k1,k2,k3,xL.out⟩
theorem q7K (w:World) (k K:Nat) (hk0:0<k) (hk:k≤6000) (hK:K≤300) (Ht:k<32*K):Calls Tryz.prog 74 #[.int .i64 (-(k:Int))] w (RetR w 1 (2^k)):=by
 have hkb:(k:Int)≤6000:=by omega
 have hkp:(1:Int)≤k:=by omega
 have Hu:Hid (2^k<2^(32*K)):=Nat.pow_lt_pow_right (by omega) Ht;have oI:Hid (1≤K∧1<2^(32*K)):=⟨by omega,Nat.one_lt_two_pow (by omega)⟩;have FO:Hid (Int.tdiv 1 (Nat.gcd (1:Int).natAbs (2^k):Nat)=1∧2^k/Nat.gcd (1:Int).natAbs (2^k)=2^k):=by
  have:Nat.gcd (1:Int).natAbs (2^k)=1:=Nat.gcd_one_left _;rw[this];exact⟨rfl,Nat.div_one _⟩
 go_enter Tryz.func74,Tryz.ntmps74;go_wp2_with fail;have hn0:=NI.new (G.refl w) 38;have bK:=(G.refl w).alloc (.cells #[.bool false,.slice none 0 0] 38);generalize w.heap.size=pn at *;generalize w.alloc (.cells #[.bool false,.slice none 0 0] 38)=wa at *;refine q00 (q1q wa 1 (by omega)) ?_;intro e w1 h;obtain⟨p1,rfl,hg1,hp1,hp2,hpi⟩:=h;have hG1:=G.trans bK hg1;have hN1:=hn0.G hg1;have HL:Hid _:=q1L w1 pn 0 p1 0 k 0 1 K (by omega) (by omega) oI.out.2 hN1.2.1 hp2 hN1.2.2 hpi;have ny:Hid (NI w w1 pn 0):=hN1;clear hn0 bK hg1 hp1 hp2 hpi hN1;go_wp2_with fail;refine q00 HL.out ?_;intro e w2 hs;obtain⟨rfl,hG2,ik,-,-⟩:=SetTo.step hG1 ny.out hs;rw[show (1:Int)*2^k=((2^k:Nat):Int) from by push_cast;rw[Int.one_mul]] at ik;have bW:Hid (NI w w2 pn ((2^k:Nat):Int)):=ik;clear hs ik HL ny hG1;go_wp2_with fail;have hr0:=q2S w2 40;have hga:=(G.refl w2).alloc (.cells #[.bool false,.slice none 0 0,.bool false,.slice none 0 0] 40);have fV:=bW.out.G hga;have hG3:=G.trans hG2 hga;have hzs:w2.heap.size<(w2.alloc (.cells #[.bool false,.slice none 0 0,.bool false,.slice none 0 0] 40)).heap.size:=by simp
 have hz0:w.heap.size≤w2.heap.size:=hG2.size;generalize w2.heap.size=pz at *;generalize w2.alloc (.cells #[.bool false,.slice none 0 0,.bool false,.slice none 0 0] 40)=w3 at *;have HR3:Hid (RatIs w3 pz 0 0):=hr0;have fJ:Hid (NI w w3 pn ((2^k:Nat):Int)):=fV;clear hr0 hga fV bW hG2;refine q00 (q1q w3 1 (by omega)) ?_;intro e w4 h;obtain⟨p4,rfl,hg4,-,Cg,eD⟩:=h;have hG4:=G.trans hG3 hg4;have nz:=fJ.out.G hg4;have HS:Hid _:=q0Z w4 pz p4 0 pn 0 0 0 1 (2^k) K (by omega) oI.out.2 Hu.out (Nat.two_pow_pos k) (G.lt hg4 hzs) Cg nz.2.1 (HR3.out.G hzs hg4) eD nz.2.2;rw[FO.out.1,FO.out.2] at HS;have Hw:=G.lt hg4 hzs;clear hg4 Cg eD nz fJ HR3 hG3;go_wp2_with fail;refine q00 HS.out ?_;intro e w5 hs;obtain⟨p,rfl,k1,k2,k3,k4⟩:=NormTo.ret hG4 hz0 Hw hs;have xL:Hid (RatIs w5 p 1 ((2^k:Nat):Int)):=k4;clear hs k4 HS;go_wp2_with fail;go_ret;exact⟨p,rfl,k1,k2,k3,xL.out⟩
/-- den: of a new Rat it is a new 1. -/
theorem qb8 (w:World) (b:Nat) (xb:Nat) (hxb:xb=1) (h:RatIs w b 0 0):
  Calls Tryz.prog 51 #[.pointer (some ⟨b,0,none⟩)] w (RetI w (xb:Int)):=by
 obtain⟨-,n,v,a,⟨c1,c2,-,-⟩,⟨l,hl,hcl,hlv⟩,h1,-⟩:=h;have ha:=q0R h1;obtain⟨p,c,rfl,-,-⟩:=q0n hl;have hl0:l.length=0:=by
  have h0:val l=0:=by rw[hlv];omega
  rw[(q0V hcl).1 h0];rfl
 rw[hl0] at c2;have HN:Hid _:=q1q w (xb:Int) ⟨by omega,by omega⟩;rw[hxb] at HN ⊢;clear hl hcl hlv h1 ha hl0;go_enter Tryz.func51,Tryz.ntmps51;go_wp2_with fail;refine Calls.mono (P:=Tryz.prog) HN.out ?_;rintro e w2 ⟨p,rfl,k1,k2,k3,k4⟩;have HK:Hid _:=k4;clear k4 HN;go_wp2_with fail;go_ret;exact⟨p,rfl,k1,k2,k3,HK.out⟩
/-- A Rat, laid or new (then it is 0). -/
def RatV (w:World) (b:Nat) (xa:Int) (xb:Nat):Prop:=RatIs w b xa (xb:Int)∨(xa=0∧xb=1∧RatIs w b 0 0)
theorem RatV.G {w w':World} {b:Nat} {xa:Int} {xb:Nat} (h:RatV w b xa xb) (hb:b<w.heap.size) (g:G w w'):RatV w' b xa xb:=by
 rcases h with h|⟨h1,h2,h⟩
 ·exact Or.inl (RatIs.G h hb g)
 ·exact Or.inr ⟨h1,h2,RatIs.G h hb g⟩
theorem RatV.num {w:World} {b:Nat} {xa:Int} {xb:Nat} (h:RatV w b xa xb):IntIs w b 0 xa:=by
 rcases h with h|⟨h1,-,h⟩
 ·exact h.1
 ·rw[h1];exact h.1
/-- A lower part: in the Rat itself, or new. -/
def DI (w0 w:World) (p o:Nat) (s:Int):Prop:=(p<w0.heap.size∧IntIs w0 p o s)∨(o=0∧NI w0 w p s)
theorem DI.G {w0 w w':World} {p o:Nat} {s:Int} (h:DI w0 w p o s) (g:Go.Proofs.YtbfjihniphldaaaGreatDoor.G w w'):DI w0 w' p o s:=by
 rcases h with h|⟨h1,h2⟩
 ·exact Or.inl h
 ·exact Or.inr ⟨h1,h2.G g⟩
theorem DI.is {w0 w:World} {p o:Nat} {s:Int} (h:DI w0 w p o s) (g:Go.Proofs.YtbfjihniphldaaaGreatDoor.G w0 w):p<w.heap.size∧IntIs w p o s:=by
 rcases h with ⟨h1,h2⟩|⟨rfl,h2⟩
 ·exact⟨G.lt g h1,IntIs.G h2 h1 g⟩
 ·exact h2.2
theorem DI.keep {w0 w w':World} {p o:Nat} {s:Int} (h:DI w0 w p o s) (k:NI w0 w p s→NI w0 w' p s):DI w0 w' p o s:=by
 rcases h with h|⟨h1,h2⟩
 ·exact Or.inl h
 ·exact Or.inr ⟨h1,k h2⟩
theorem q0K (w0 w:World) (g:G w0 w) (b:Nat) (xa:Int) (xb:Nat) (hxb:0<xb) (hb:b<w0.heap.size) (h:RatV w0 b xa xb):
  Calls Tryz.prog 51 #[.pointer (some ⟨b,0,none⟩)] w fun e w'=>∃ p o,e= .returned (.pointer (some ⟨p,o,none⟩))∧G w w'∧DI w0 w' p o (xb:Int)∧(p<w0.heap.size∨w.heap.size≤p):=by
 rcases h with h|⟨-,h2,h⟩
 ·refine Calls.mono (P:=Tryz.prog) (q4q w b xa xb (by omega) (h.G hb g)) ?_;rintro e w' ⟨rfl,g'⟩;exact⟨b,2,rfl,g',Or.inl ⟨hb,h.2⟩,Or.inl hb⟩
 ·refine Calls.mono (P:=Tryz.prog) (qb8 w b xb h2 (h.G hb g)) ?_;rintro e w' ⟨p,rfl,g',k1,k2,k3⟩;exact⟨p,0,rfl,g',Or.inr ⟨rfl,Nat.le_trans g.size k1,k2,k3⟩,Or.inr k1⟩
set_option maxRecDepth 10000 in
set_option maxHeartbeats 8000000 in
theorem qbL (w:World) (bz bx b2:Nat) (s1 s2 xa ya:Int) (xb yb:Nat) (KB:Nat) (hK:KB≤100000) (hx2:xa.natAbs<2^(32*KB)) (hy2:ya.natAbs<2^(32*KB)) (fP:xb<2^(32*KB)) (gF:yb<2^(32*KB)) (hxb:0<xb) (hyb:0<yb)
  (hbz:bz<w.heap.size) (hbx:bx<w.heap.size) (hby:b2<w.heap.size) (hz:RatIs w bz s1 s2) (hx:RatV w bx xa xb) (hy:RatV w b2 ya yb):
  Calls Tryz.prog 12 #[.pointer (some ⟨bz,0,none⟩),.pointer (some ⟨bx,0,none⟩),.pointer (some ⟨b2,0,none⟩)] w (NormTo w bz (Int.tdiv (xa*(yb:Int)+ya*(xb:Int)) (Nat.gcd (xa*(yb:Int)+ya*(xb:Int)).natAbs (xb*yb):Nat)) (xb*yb/Nat.gcd (xa*(yb:Int)+ya*(xb:Int)).natAbs (xb*yb))):=by
 have iL:Hid (xa.natAbs<2^(32*KB)):=hx2;have kJ:Hid (ya.natAbs<2^(32*KB)):=hy2;have kK:Hid ((xb:Int).natAbs<2^(32*KB)):=by show (xb:Int).natAbs<2^(32*KB);rw[Int.natAbs_natCast];exact fP
 have iM:Hid ((yb:Int).natAbs<2^(32*KB)):=by show (yb:Int).natAbs<2^(32*KB);rw[Int.natAbs_natCast];exact gF
 have HX0:Hid (IntIs w bx 0 xa):=hx.num;have qK:Hid (IntIs w b2 0 ya):=hy.num;have nC:Hid (RatV w bx xa xb):=hx;have jW:Hid (RatV w b2 ya yb):=hy;have EY:Hid (RatIs w bz s1 s2):=hz;have gG:0<xb:=hxb;have dF:0<yb:=hyb;have vX:32*(2*KB)=32*KB+32*KB:=by omega
 have hn1:(xa*(yb:Int)).natAbs<2^(32*(2*KB)):=by
  rw[Int.natAbs_mul,Int.natAbs_natCast,vX,Nat.pow_add];exact Nat.mul_lt_mul'' hx2 gF
 have hn2:(ya*(xb:Int)).natAbs<2^(32*(2*KB)):=by
  rw[Int.natAbs_mul,Int.natAbs_natCast,vX,Nat.pow_add];exact Nat.mul_lt_mul'' hy2 fP
 have hd2:xb*yb<2^(32*(2*KB)):=by
  rw[vX,Nat.pow_add];exact Nat.mul_lt_mul'' fP gF
 have hup:2^(32*(2*KB))*2≤2^(32*(2*KB+1)):=by rw[← Nat.pow_succ];exact Nat.pow_le_pow_right (by omega) (by omega)
 have ny:Hid ((xa*(yb:Int)).natAbs<2^(32*(2*KB))):=hn1;have bW:Hid ((ya*(xb:Int)).natAbs<2^(32*(2*KB))):=hn2;have TD:Hid ((xa*(yb:Int)+ya*(xb:Int)).natAbs<2^(32*(2*KB+1))):=by
  show (xa*(yb:Int)+ya*(xb:Int)).natAbs<2^(32*(2*KB+1));have:=Int.natAbs_add_le (xa*(yb:Int)) (ya*(xb:Int));omega
 have HD2:Hid (xb*yb<2^(32*(2*KB+1))):=by show xb*yb<2^(32*(2*KB+1));omega
 have HD0:Hid (0<xb*yb):=Nat.mul_pos hxb hyb;clear hx hy hz hx2 hy2 fP gF hxb hyb vX hn1 hn2 hd2 hup;go_enter Tryz.func12,Tryz.ntmps12;go_wp2_with fail;apply share
 ·intro LX;refine q0L 15 (G w) (by kernel_rfl) (by first|exact(G.refl _).drew|exact G.drew (by assumption)) ?_;intro bn;refine q02 2 (v:= ?_) rfl (by kernel_rfl) (fun _ _ _ h=>h) rfl ?_ ‹_› ?_;rotate_left
  ·intro wq hwq
   first|(go_simp;done)|(go_simp;with_reducible rfl)
  try simp only[aput,List.set]
  refine q02 3 (v:= ?_) rfl (by kernel_rfl) (fun _ _ _ h=>h) rfl ?_ ‹_› ?_;rotate_left
  ·intro wq hwq
   first|(go_simp;done)|(go_simp;with_reducible rfl)
  try simp only[aput,List.set]
  refine q02 4 (v:= ?_) rfl (by kernel_rfl) (fun _ _ _ h=>h) rfl ?_ ‹_› ?_;rotate_left
  ·intro wq hwq
   first|(go_simp;done)|(go_simp;with_reducible rfl)
  try simp only[aput,List.set]
  refine q02 5 (v:= ?_) rfl (by kernel_rfl) (fun _ _ _ h=>h) rfl ?_ ‹_› ?_;rotate_left
  ·intro wq hwq
   first|(go_simp;done)|(go_simp;with_reducible rfl)
  try simp only[aput,List.set]
  refine q02 9 (v:= ?_) rfl (by kernel_rfl) (fun _ _ _ h=>h) rfl ?_ ‹_› ?_;rotate_left
  ·intro wq hwq
   first|(go_simp;done)|(go_simp;with_reducible rfl)
  try simp only[aput,List.set]
  refine q02 10 (v:= ?_) rfl (by kernel_rfl) (fun _ _ _ h=>h) rfl ?_ ‹_› ?_;rotate_left
  ·intro wq hwq
   first|(go_simp;done)|(go_simp;with_reducible rfl)
  try simp only[aput,List.set]
  refine q02 11 (v:= ?_) rfl (by kernel_rfl) (fun _ _ _ h=>h) rfl ?_ ‹_› ?_;rotate_left
  ·intro wq hwq
   first|(go_simp;done)|(go_simp;with_reducible rfl)
  try simp only[aput,List.set]
  refine q02 12 (v:= ?_) rfl (by kernel_rfl) (fun _ _ _ h=>h) rfl ?_ ‹_› ?_;rotate_left
  ·intro wq hwq
   first|(go_simp;done)|(go_simp;with_reducible rfl)
  try simp only[aput,List.set]
  show q0F _ _ _ _ _ _ _ _ _ w.drew;have hS5:=bn;generalize w.drew=w5 at *;clear bn;apply share;intro kU;apply share;intro jM;apply share;intro lQ;apply share;intro oZ;apply share;intro bS;apply share;intro lS;apply share;intro tN;apply share;intro dJ;apply share;intro tO;apply share;intro tQ;apply share;intro tT;apply share;intro gH;apply share;intro EZ;apply share;intro F5;apply share;intro F6;apply share;intro jN;apply share;intro mW;apply share;intro mX;refine q5Y (i:=0) (j:=1) (l:=6) (m:=8) (by kernel_rfl) rfl rfl rfl rfl ?_ ?_ ?_ ?_
  ·skip
   intro K hK;go_simp;refine hK.out _ _ (Or.inr (hS5.alloc _)) ?_;clear hK K;have hn:=NI.new hS5 38;have hal:=(G.refl w5).alloc (.cells #[.bool false,.slice none 0 0] 38);have aM:=G.trans hS5 hal;generalize w5.heap.size=p0 at *;generalize w5.alloc (.cells #[.bool false,.slice none 0 0] 38)=w6 at *;have uG:=hid hn;clear hn hal;refine q0I (i:=1) (j:=6) (l:=8) (by kernel_rfl) rfl rfl rfl ?_ ?_ ?_
   ·skip
    intro K hK;go_simp;refine hK.out _ _ (Or.inr (aM.alloc _)) ?_;clear hK K;have hn:=NI.new aM 38;have hal:=(G.refl w6).alloc (.cells #[.bool false,.slice none 0 0] 38);have aC:=G.trans aM hal;have gK:=hid (uG.out.G hal);have aD:w6.heap.size≠p0:=by have:=uG.out.2.1;omega
    generalize w6.heap.size=p1 at *;generalize w6.alloc (.cells #[.bool false,.slice none 0 0] 38)=w7 at *;have bU:=hid hn;have ak:Hid (p0≠p1):=aD.symm;have au:Hid (p1≠p0):=aD;clear hn hal aM uG aD;refine q03 (l':=#[true,true,true,true,true,true,false,false,false,true,true,true,true,false,false,false,false]) (by kernel_rfl) ?_;revert au;revert ak;revert bU;revert gK;revert aC;revert p1;revert p0;revert w7;exact EZ.out
   ·skip
    intro K hK;go_simp;go_wp2_with (go_at_call 51;refine q00 (q0K w w6 aM b2 ya yb dF hby jW.out) ?_;intro e w7 hx;obtain⟨p4,o4,rfl,hg,h72,dY⟩:=hx);refine hK.out _ _ (Or.inr (G.trans aM hg)) ?_;clear hK K;have aC:=G.trans aM hg;have HD7:=hid h72;have aD:p4≠p0:=by have h1:=uG.out.1;have h2:=uG.out.2.1;omega
    have gK:=hid (uG.out.G hg);have av:Hid (p4≠p0):=aD;clear hg h72 dY aM uG aD;refine q03 (l':=#[true,false,true,true,true,true,true,false,false,true,true,true,true,false,false,false,false]) (by kernel_rfl) ?_;revert av;revert HD7;revert gK;revert aC;revert o4;revert p4;revert p0;revert w7;exact F6.out
   ·skip
    intro K hK;go_simp;refine hK.out _ _ (Or.inr (aM.alloc _)) ?_;clear hK K;have hn:=NI.new aM 38;have hal:=(G.refl w6).alloc (.cells #[.bool false,.slice none 0 0] 38);have aC:=G.trans aM hal;have gK:=hid (uG.out.G hal);have aD:w6.heap.size≠p0:=by have:=uG.out.2.1;omega
    generalize w6.heap.size=p2 at *;generalize w6.alloc (.cells #[.bool false,.slice none 0 0] 38)=w7 at *;have cB:=hid hn;have ay:Hid (p0≠p2):=aD.symm;have az:Hid (p2≠p0):=aD;clear hn hal aM uG aD;refine q03 (l':=#[true,false,true,true,true,true,false,false,true,true,true,true,true,false,false,false,false]) (by kernel_rfl) ?_;revert az;revert ay;revert cB;revert gK;revert aC;revert p2;revert p0;revert w7;exact F5.out
  ·skip
   intro K hK;go_simp;refine hK.out _ _ (Or.inr (hS5.alloc _)) ?_;clear hK K;have hn:=NI.new hS5 38;have hal:=(G.refl w5).alloc (.cells #[.bool false,.slice none 0 0] 38);have aM:=G.trans hS5 hal;generalize w5.heap.size=p1 at *;generalize w5.alloc (.cells #[.bool false,.slice none 0 0] 38)=w6 at *;have mf:=hid hn;clear hn hal;refine q0I (i:=0) (j:=6) (l:=8) (by kernel_rfl) rfl rfl rfl ?_ ?_ ?_
   ·skip
    intro K hK;go_simp;refine hK.out _ _ (Or.inr (aM.alloc _)) ?_;clear hK K;have hn:=NI.new aM 38;have hal:=(G.refl w6).alloc (.cells #[.bool false,.slice none 0 0] 38);have aC:=G.trans aM hal;have bU:=hid (mf.out.G hal);have ae:w6.heap.size≠p1:=by have:=mf.out.2.1;omega
    generalize w6.heap.size=p0 at *;generalize w6.alloc (.cells #[.bool false,.slice none 0 0] 38)=w7 at *;have gK:=hid hn;have au:Hid (p1≠p0):=ae.symm;have ak:Hid (p0≠p1):=ae;clear hn hal aM mf ae;refine q03 (l':=#[true,true,true,true,true,true,false,false,false,true,true,true,true,false,false,false,false]) (by kernel_rfl) ?_;revert au;revert ak;revert bU;revert gK;revert aC;revert p1;revert p0;revert w7;exact EZ.out
   ·skip
    intro K hK;go_simp;go_wp2_with (go_at_call 51;refine q00 (q0K w w6 aM b2 ya yb dF hby jW.out) ?_;intro e w7 hx;obtain⟨p4,o4,rfl,hg,h72,dY⟩:=hx);refine hK.out _ _ (Or.inr (G.trans aM hg)) ?_;clear hK K;have aC:=G.trans aM hg;have HD7:=hid h72;have ae:p4≠p1:=by have h1:=mf.out.1;have h2:=mf.out.2.1;omega
    have bU:=hid (mf.out.G hg);have aa:Hid (p4≠p1):=ae;clear hg h72 dY aM mf ae;refine q03 (l':=#[false,true,true,true,true,true,true,false,false,true,true,true,true,false,false,false,false]) (by kernel_rfl) ?_;revert aa;revert HD7;revert bU;revert aC;revert o4;revert p4;revert p1;revert w7;exact mW.out
   ·skip
    intro K hK;go_simp;refine hK.out _ _ (Or.inr (aM.alloc _)) ?_;clear hK K;have hn:=NI.new aM 38;have hal:=(G.refl w6).alloc (.cells #[.bool false,.slice none 0 0] 38);have aC:=G.trans aM hal;have bU:=hid (mf.out.G hal);have ae:w6.heap.size≠p1:=by have:=mf.out.2.1;omega
    generalize w6.heap.size=p2 at *;generalize w6.alloc (.cells #[.bool false,.slice none 0 0] 38)=w7 at *;have cB:=hid hn;have af:Hid (p1≠p2):=ae.symm;have ag:Hid (p2≠p1):=ae;clear hn hal aM mf ae;refine q03 (l':=#[false,true,true,true,true,true,false,false,true,true,true,true,true,false,false,false,false]) (by kernel_rfl) ?_;revert af;revert ag;revert cB;revert bU;revert aC;revert p2;revert p1;revert w7;exact jN.out
  ·skip
   intro K hK;go_simp;go_wp2_with (go_at_call 51;refine q00 (q0K w w5 hS5 b2 ya yb dF hby jW.out) ?_;intro e w6 hx;obtain⟨p4,o4,rfl,hg,h72,dY⟩:=hx);refine hK.out _ _ (Or.inr (G.trans hS5 hg)) ?_;clear hK K;have aM:=G.trans hS5 hg;have HD6:=hid h72;clear hg h72 dY;refine q0I (i:=0) (j:=1) (l:=8) (by kernel_rfl) rfl rfl rfl ?_ ?_ ?_
   ·skip
    intro K hK;go_simp;refine hK.out _ _ (Or.inr (aM.alloc _)) ?_;clear hK K;have hn:=NI.new aM 38;have hal:=(G.refl w6).alloc (.cells #[.bool false,.slice none 0 0] 38);have aC:=G.trans aM hal;have HD7:=hid (HD6.out.G hal);have aj:w6.heap.size≠p4:=by have:=(HD6.out.is aM).1;omega
    generalize w6.heap.size=p0 at *;generalize w6.alloc (.cells #[.bool false,.slice none 0 0] 38)=w7 at *;have gK:=hid hn;have av:Hid (p4≠p0):=aj.symm;clear hn hal aM HD6 aj;refine q03 (l':=#[true,false,true,true,true,true,true,false,false,true,true,true,true,false,false,false,false]) (by kernel_rfl) ?_;revert av;revert HD7;revert gK;revert aC;revert o4;revert p4;revert p0;revert w7;exact F6.out
   ·skip
    intro K hK;go_simp;refine hK.out _ _ (Or.inr (aM.alloc _)) ?_;clear hK K;have hn:=NI.new aM 38;have hal:=(G.refl w6).alloc (.cells #[.bool false,.slice none 0 0] 38);have aC:=G.trans aM hal;have HD7:=hid (HD6.out.G hal);have aj:w6.heap.size≠p4:=by have:=(HD6.out.is aM).1;omega
    generalize w6.heap.size=p1 at *;generalize w6.alloc (.cells #[.bool false,.slice none 0 0] 38)=w7 at *;have bU:=hid hn;have aa:Hid (p4≠p1):=aj.symm;clear hn hal aM HD6 aj;refine q03 (l':=#[false,true,true,true,true,true,true,false,false,true,true,true,true,false,false,false,false]) (by kernel_rfl) ?_;revert aa;revert HD7;revert bU;revert aC;revert o4;revert p4;revert p1;revert w7;exact mW.out
   ·skip
    intro K hK;go_simp;refine hK.out _ _ (Or.inr (aM.alloc _)) ?_;clear hK K;have hn:=NI.new aM 38;have hal:=(G.refl w6).alloc (.cells #[.bool false,.slice none 0 0] 38);have aC:=G.trans aM hal;have HD7:=hid (HD6.out.G hal);have aj:w6.heap.size≠p4:=by have:=(HD6.out.is aM).1;omega
    generalize w6.heap.size=p2 at *;generalize w6.alloc (.cells #[.bool false,.slice none 0 0] 38)=w7 at *;have cB:=hid hn;have ah:Hid (p4≠p2):=aj.symm;clear hn hal aM HD6 aj;refine q03 (l':=#[false,false,true,true,true,true,true,false,true,true,true,true,true,false,false,false,false]) (by kernel_rfl) ?_;revert ah;revert cB;revert HD7;revert aC;revert p2;revert o4;revert p4;revert w7;exact mX.out
  ·skip
   intro K hK;go_simp;refine hK.out _ _ (Or.inr (hS5.alloc _)) ?_;clear hK K;have hn:=NI.new hS5 38;have hal:=(G.refl w5).alloc (.cells #[.bool false,.slice none 0 0] 38);have aM:=G.trans hS5 hal;generalize w5.heap.size=p2 at *;generalize w5.alloc (.cells #[.bool false,.slice none 0 0] 38)=w6 at *;have mg:=hid hn;clear hn hal;refine q0I (i:=0) (j:=1) (l:=6) (by kernel_rfl) rfl rfl rfl ?_ ?_ ?_
   ·skip
    intro K hK;go_simp;refine hK.out _ _ (Or.inr (aM.alloc _)) ?_;clear hK K;have hn:=NI.new aM 38;have hal:=(G.refl w6).alloc (.cells #[.bool false,.slice none 0 0] 38);have aC:=G.trans aM hal;have cB:=hid (mg.out.G hal);have ax:w6.heap.size≠p2:=by have:=mg.out.2.1;omega
    generalize w6.heap.size=p0 at *;generalize w6.alloc (.cells #[.bool false,.slice none 0 0] 38)=w7 at *;have gK:=hid hn;have az:Hid (p2≠p0):=ax.symm;have ay:Hid (p0≠p2):=ax;clear hn hal aM mg ax;refine q03 (l':=#[true,false,true,true,true,true,false,false,true,true,true,true,true,false,false,false,false]) (by kernel_rfl) ?_;revert az;revert ay;revert cB;revert gK;revert aC;revert p2;revert p0;revert w7;exact F5.out
   ·skip
    intro K hK;go_simp;refine hK.out _ _ (Or.inr (aM.alloc _)) ?_;clear hK K;have hn:=NI.new aM 38;have hal:=(G.refl w6).alloc (.cells #[.bool false,.slice none 0 0] 38);have aC:=G.trans aM hal;have cB:=hid (mg.out.G hal);have ax:w6.heap.size≠p2:=by have:=mg.out.2.1;omega
    generalize w6.heap.size=p1 at *;generalize w6.alloc (.cells #[.bool false,.slice none 0 0] 38)=w7 at *;have bU:=hid hn;have ag:Hid (p2≠p1):=ax.symm;have af:Hid (p1≠p2):=ax;clear hn hal aM mg ax;refine q03 (l':=#[false,true,true,true,true,true,false,false,true,true,true,true,true,false,false,false,false]) (by kernel_rfl) ?_;revert af;revert ag;revert cB;revert bU;revert aC;revert p2;revert p1;revert w7;exact jN.out
   ·skip
    intro K hK;go_simp;go_wp2_with (go_at_call 51;refine q00 (q0K w w6 aM b2 ya yb dF hby jW.out) ?_;intro e w7 hx;obtain⟨p4,o4,rfl,hg,h72,dY⟩:=hx);refine hK.out _ _ (Or.inr (G.trans aM hg)) ?_;clear hK K;have aC:=G.trans aM hg;have HD7:=hid h72;have ax:p4≠p2:=by have h1:=mg.out.1;have h2:=mg.out.2.1;omega
    have cB:=hid (mg.out.G hg);have ah:Hid (p4≠p2):=ax;clear hg h72 dY aM mg ax;refine q03 (l':=#[false,false,true,true,true,true,true,false,true,true,true,true,true,false,false,false,false]) (by kernel_rfl) ?_;revert ah;revert cB;revert HD7;revert aC;revert p2;revert o4;revert p4;revert w7;exact mX.out
  refine Later.mk ?_;intro w7 p4 o4 p2 aC HD7 cB ah;refine q0d (i:=0) (j:=1) (by kernel_rfl) rfl rfl ?_ ?_
  ·skip
   intro K hK;go_simp;refine hK.out _ _ (Or.inr (aC.alloc _)) ?_;clear hK K;have hn:=NI.new aC 38;have hal:=(G.refl w7).alloc (.cells #[.bool false,.slice none 0 0] 38);have aG:=G.trans aC hal;have aW:=hid (HD7.out.G hal);have eG:=hid (cB.out.G hal);have aj:w7.heap.size≠p4:=by have:=(HD7.out.is aC).1;omega
   have ax:w7.heap.size≠p2:=by have:=cB.out.2.1;omega
   generalize w7.heap.size=p0 at *;generalize w7.alloc (.cells #[.bool false,.slice none 0 0] 38)=w8 at *;have gZ:=hid hn;have av:Hid (p4≠p0):=aj.symm;have az:Hid (p2≠p0):=ax.symm;have ay:Hid (p0≠p2):=ax;clear hn hal aC HD7 cB aj ax;refine q03 (l':=#[true,false,true,true,true,true,true,false,true,true,true,true,true,false,false,false,false]) (by kernel_rfl) ?_;revert az;revert av;revert ah;revert ay;revert eG;revert aW;revert gZ;revert aG;revert p2;revert o4;revert p4;revert p0;revert w8;exact tT.out
  ·skip
   intro K hK;go_simp;refine hK.out _ _ (Or.inr (aC.alloc _)) ?_;clear hK K;have hn:=NI.new aC 38;have hal:=(G.refl w7).alloc (.cells #[.bool false,.slice none 0 0] 38);have aG:=G.trans aC hal;have aW:=hid (HD7.out.G hal);have eG:=hid (cB.out.G hal);have aj:w7.heap.size≠p4:=by have:=(HD7.out.is aC).1;omega
   have ax:w7.heap.size≠p2:=by have:=cB.out.2.1;omega
   generalize w7.heap.size=p1 at *;generalize w7.alloc (.cells #[.bool false,.slice none 0 0] 38)=w8 at *;have bg:=hid hn;have aa:Hid (p4≠p1):=aj.symm;have ag:Hid (p2≠p1):=ax.symm;have af:Hid (p1≠p2):=ax;clear hn hal aC HD7 cB aj ax;refine q03 (l':=#[false,true,true,true,true,true,true,false,true,true,true,true,true,false,false,false,false]) (by kernel_rfl) ?_;revert ah;revert af;revert ag;revert aa;revert eG;revert aW;revert bg;revert aG;revert p2;revert o4;revert p4;revert p1;revert w8;exact gH.out
  refine Later.mk ?_;intro w7 p1 p4 o4 aC bU HD7 aa;refine q0I (i:=0) (j:=7) (l:=8) (by kernel_rfl) rfl rfl rfl ?_ ?_ ?_
  ·skip
   intro K hK;go_simp;refine hK.out _ _ (Or.inr (aC.alloc _)) ?_;clear hK K;have hn:=NI.new aC 38;have hal:=(G.refl w7).alloc (.cells #[.bool false,.slice none 0 0] 38);have aG:=G.trans aC hal;have bg:=hid (bU.out.G hal);have aW:=hid (HD7.out.G hal);have ae:w7.heap.size≠p1:=by have:=bU.out.2.1;omega
   have aj:w7.heap.size≠p4:=by have:=(HD7.out.is aC).1;omega
   generalize w7.heap.size=p0 at *;generalize w7.alloc (.cells #[.bool false,.slice none 0 0] 38)=w8 at *;have gZ:=hid hn;have au:Hid (p1≠p0):=ae.symm;have ak:Hid (p0≠p1):=ae;have av:Hid (p4≠p0):=aj.symm;clear hn hal aC bU HD7 ae aj;refine q03 (l':=#[true,true,true,true,true,true,true,false,false,true,true,true,true,false,false,false,false]) (by kernel_rfl) ?_;revert av;revert au;revert aa;revert ak;revert aW;revert bg;revert gZ;revert aG;revert o4;revert p4;revert p1;revert p0;revert w8;exact tQ.out
  ·skip
   intro K hK;go_simp;have dK:Hid _:=q1p w7 p1 0 bx 0 p4 o4 0 xa yb KB (by omega) iL.out iM.out bU.out.2.1 (G.lt aC hbx) (HD7.out.is aC).1 bU.out.2.2 (IntIs.G HX0.out hbx aC) (HD7.out.is aC).2;go_wp2_with (go_at_call 50;refine q00 dK.out ?_;intro e w8 hx;obtain⟨rfl,aG,hl,-,hkp⟩:=SetTo.step aC bU.out hx);have bg:=hid hl;have aW:=hid (DI.keep HD7.out (hkp _ _ aa.out));refine hK.out _ _ (Or.inr aG) ?_;clear hK K hx hl hkp dK aC bU HD7;refine q0I (i:=0) (j:=8) (l:=13) (by kernel_rfl) rfl rfl rfl ?_ ?_ ?_
   ·skip
    intro K hK;go_simp;refine hK.out _ _ (Or.inr (aG.alloc _)) ?_;clear hK K;have hn:=NI.new aG 38;have hal:=(G.refl w8).alloc (.cells #[.bool false,.slice none 0 0] 38);have aO:=G.trans aG hal;have bX:=hid (bg.out.G hal);have aZ:=hid (aW.out.G hal);have ae:w8.heap.size≠p1:=by have:=bg.out.2.1;omega
    have aj:w8.heap.size≠p4:=by have:=(aW.out.is aG).1;omega
    generalize w8.heap.size=p0 at *;generalize w8.alloc (.cells #[.bool false,.slice none 0 0] 38)=w9 at *;have jX:=hid hn;have au:Hid (p1≠p0):=ae.symm;have ak:Hid (p0≠p1):=ae;have av:Hid (p4≠p0):=aj.symm;clear hn hal aG bg aW ae aj;refine q03 (l':=#[true,true,true,true,true,true,true,true,false,true,true,true,true,false,false,false,false]) (by kernel_rfl) ?_;revert av;revert au;revert aa;revert ak;revert aZ;revert bX;revert jX;revert aO;revert o4;revert p4;revert p1;revert p0;revert w9;exact tN.out
   ·skip
    intro K hK;go_simp;refine hK.out _ _ (Or.inr (aG.alloc _)) ?_;clear hK K;have hn:=NI.new aG 38;have hal:=(G.refl w8).alloc (.cells #[.bool false,.slice none 0 0] 38);have aO:=G.trans aG hal;have bX:=hid (bg.out.G hal);have aZ:=hid (aW.out.G hal);have ae:w8.heap.size≠p1:=by have:=bg.out.2.1;omega
    have aj:w8.heap.size≠p4:=by have:=(aW.out.is aG).1;omega
    generalize w8.heap.size=p2 at *;generalize w8.alloc (.cells #[.bool false,.slice none 0 0] 38)=w9 at *;have iE:=hid hn;have af:Hid (p1≠p2):=ae.symm;have ag:Hid (p2≠p1):=ae;have ah:Hid (p4≠p2):=aj.symm;clear hn hal aG bg aW ae aj;refine q03 (l':=#[false,true,true,true,true,true,true,true,true,true,true,true,true,false,false,false,false]) (by kernel_rfl) ?_;revert ah;revert af;revert ag;revert aa;revert iE;revert aZ;revert bX;revert aO;revert p2;revert o4;revert p4;revert p1;revert w9;exact dJ.out
   ·skip
    intro K hK;go_simp;go_wp2_with (go_at_call 51;refine q00 (q0K w w8 aG bx xa xb gG hbx nC.out) ?_;intro e w9 hx;obtain⟨p3,o3,rfl,hg,h72,dY⟩:=hx);refine hK.out _ _ (Or.inr (G.trans aG hg)) ?_;clear hK K;have aO:=G.trans aG hg;have p8:=hid h72;have ae:p3≠p1:=by have h1:=bg.out.1;have h2:=bg.out.2.1;omega
    have bX:=hid (bg.out.G hg);have aZ:=hid (aW.out.G hg);have aH:Hid (p3≠p1):=ae;clear hg h72 dY aG bg aW ae;refine q0d (i:=0) (j:=8) (by kernel_rfl) rfl rfl ?_ ?_
    ·skip
     intro K hK;go_simp;refine hK.out _ _ (Or.inr (aO.alloc _)) ?_;clear hK K;have hn:=NI.new aO 38;have hal:=(G.refl w9).alloc (.cells #[.bool false,.slice none 0 0] 38);have aF:=G.trans aO hal;have aU:=hid (bX.out.G hal);have aS:=hid (aZ.out.G hal);have aX:=hid (p8.out.G hal);have ae:w9.heap.size≠p1:=by have:=bX.out.2.1;omega
     have aj:w9.heap.size≠p4:=by have:=(aZ.out.is aO).1;omega
     have bJ:w9.heap.size≠p3:=by have:=(p8.out.is aO).1;omega
     generalize w9.heap.size=p0 at *;generalize w9.alloc (.cells #[.bool false,.slice none 0 0] 38)=aR at *;have dM:=hid hn;have au:Hid (p1≠p0):=ae.symm;have ak:Hid (p0≠p1):=ae;have av:Hid (p4≠p0):=aj.symm;have aP:Hid (p3≠p0):=bJ.symm;clear hn hal aO bX aZ p8 ae aj bJ;refine q03 (l':=#[true,true,true,true,true,true,true,true,false,true,true,true,true,true,false,false,false]) (by kernel_rfl) ?_;revert aP;revert av;revert au;revert aH;revert aa;revert ak;revert aX;revert aS;revert aU;revert dM;revert aF;revert o3;revert p3;revert o4;revert p4;revert p1;revert p0;revert aR;exact oZ.out
    ·skip
     intro K hK;go_simp;refine hK.out _ _ (Or.inr (aO.alloc _)) ?_;clear hK K;have hn:=NI.new aO 38;have hal:=(G.refl w9).alloc (.cells #[.bool false,.slice none 0 0] 38);have aF:=G.trans aO hal;have aU:=hid (bX.out.G hal);have aS:=hid (aZ.out.G hal);have aX:=hid (p8.out.G hal);have ae:w9.heap.size≠p1:=by have:=bX.out.2.1;omega
     have aj:w9.heap.size≠p4:=by have:=(aZ.out.is aO).1;omega
     have bJ:w9.heap.size≠p3:=by have:=(p8.out.is aO).1;omega
     generalize w9.heap.size=p2 at *;generalize w9.alloc (.cells #[.bool false,.slice none 0 0] 38)=aR at *;have aY:=hid hn;have af:Hid (p1≠p2):=ae.symm;have ag:Hid (p2≠p1):=ae;have ah:Hid (p4≠p2):=aj.symm;have aI:Hid (p3≠p2):=bJ.symm;clear hn hal aO bX aZ p8 ae aj bJ;refine q03 (l':=#[false,true,true,true,true,true,true,true,true,true,true,true,true,true,false,false,false]) (by kernel_rfl) ?_;revert aI;revert ah;revert af;revert aH;revert ag;revert aa;revert aX;revert aY;revert aS;revert aU;revert aF;revert o3;revert p3;revert p2;revert o4;revert p4;revert p1;revert aR;exact bS.out
  ·skip
   intro K hK;go_simp;refine hK.out _ _ (Or.inr (aC.alloc _)) ?_;clear hK K;have hn:=NI.new aC 38;have hal:=(G.refl w7).alloc (.cells #[.bool false,.slice none 0 0] 38);have aG:=G.trans aC hal;have bg:=hid (bU.out.G hal);have aW:=hid (HD7.out.G hal);have ae:w7.heap.size≠p1:=by have:=bU.out.2.1;omega
   have aj:w7.heap.size≠p4:=by have:=(HD7.out.is aC).1;omega
   generalize w7.heap.size=p2 at *;generalize w7.alloc (.cells #[.bool false,.slice none 0 0] 38)=w8 at *;have eG:=hid hn;have af:Hid (p1≠p2):=ae.symm;have ag:Hid (p2≠p1):=ae;have ah:Hid (p4≠p2):=aj.symm;clear hn hal aC bU HD7 ae aj;refine q03 (l':=#[false,true,true,true,true,true,true,false,true,true,true,true,true,false,false,false,false]) (by kernel_rfl) ?_;revert ah;revert af;revert ag;revert aa;revert eG;revert aW;revert bg;revert aG;revert p2;revert o4;revert p4;revert p1;revert w8;exact gH.out
  refine Later.mk ?_;intro w7 p1 p2 aC bU cB ag af;refine q0d (i:=0) (j:=6) (by kernel_rfl) rfl rfl ?_ ?_
  ·skip
   intro K hK;go_simp;refine hK.out _ _ (Or.inr (aC.alloc _)) ?_;clear hK K;have hn:=NI.new aC 38;have hal:=(G.refl w7).alloc (.cells #[.bool false,.slice none 0 0] 38);have aG:=G.trans aC hal;have bg:=hid (bU.out.G hal);have eG:=hid (cB.out.G hal);have ae:w7.heap.size≠p1:=by have:=bU.out.2.1;omega
   have ax:w7.heap.size≠p2:=by have:=cB.out.2.1;omega
   generalize w7.heap.size=p0 at *;generalize w7.alloc (.cells #[.bool false,.slice none 0 0] 38)=w8 at *;have gZ:=hid hn;have au:Hid (p1≠p0):=ae.symm;have ak:Hid (p0≠p1):=ae;have az:Hid (p2≠p0):=ax.symm;have ay:Hid (p0≠p2):=ax;clear hn hal aC bU cB ae ax;refine q03 (l':=#[true,true,true,true,true,true,false,false,true,true,true,true,true,false,false,false,false]) (by kernel_rfl) ?_;revert az;revert au;revert af;revert ay;revert ag;revert ak;revert eG;revert bg;revert gZ;revert aG;revert p2;revert p1;revert p0;revert w8;exact tO.out
  ·skip
   intro K hK;go_simp;go_wp2_with (go_at_call 51;refine q00 (q0K w w7 aC b2 ya yb dF hby jW.out) ?_;intro e w8 hx;obtain⟨p4,o4,rfl,hg,h72,dY⟩:=hx);refine hK.out _ _ (Or.inr (G.trans aC hg)) ?_;clear hK K;have aG:=G.trans aC hg;have aW:=hid h72;have ae:p4≠p1:=by have h1:=bU.out.1;have h2:=bU.out.2.1;omega
   have ax:p4≠p2:=by have h1:=cB.out.1;have h2:=cB.out.2.1;omega
   have bg:=hid (bU.out.G hg);have eG:=hid (cB.out.G hg);have aa:Hid (p4≠p1):=ae;have ah:Hid (p4≠p2):=ax;clear hg h72 dY aC bU cB ae ax;refine q03 (l':=#[false,true,true,true,true,true,true,false,true,true,true,true,true,false,false,false,false]) (by kernel_rfl) ?_;revert ah;revert af;revert ag;revert aa;revert eG;revert aW;revert bg;revert aG;revert p2;revert o4;revert p4;revert p1;revert w8;exact gH.out
  refine Later.mk ?_;intro w7 p0 p4 o4 aC gK HD7 av;refine q0d (i:=1) (j:=8) (by kernel_rfl) rfl rfl ?_ ?_
  ·skip
   intro K hK;go_simp;refine hK.out _ _ (Or.inr (aC.alloc _)) ?_;clear hK K;have hn:=NI.new aC 38;have hal:=(G.refl w7).alloc (.cells #[.bool false,.slice none 0 0] 38);have aG:=G.trans aC hal;have gZ:=hid (gK.out.G hal);have aW:=hid (HD7.out.G hal);have aD:w7.heap.size≠p0:=by have:=gK.out.2.1;omega
   have aj:w7.heap.size≠p4:=by have:=(HD7.out.is aC).1;omega
   generalize w7.heap.size=p1 at *;generalize w7.alloc (.cells #[.bool false,.slice none 0 0] 38)=w8 at *;have bg:=hid hn;have ak:Hid (p0≠p1):=aD.symm;have au:Hid (p1≠p0):=aD;have aa:Hid (p4≠p1):=aj.symm;clear hn hal aC gK HD7 aD aj;refine q03 (l':=#[true,true,true,true,true,true,true,false,false,true,true,true,true,false,false,false,false]) (by kernel_rfl) ?_;revert av;revert au;revert aa;revert ak;revert aW;revert bg;revert gZ;revert aG;revert o4;revert p4;revert p1;revert p0;revert w8;exact tQ.out
  ·skip
   intro K hK;go_simp;refine hK.out _ _ (Or.inr (aC.alloc _)) ?_;clear hK K;have hn:=NI.new aC 38;have hal:=(G.refl w7).alloc (.cells #[.bool false,.slice none 0 0] 38);have aG:=G.trans aC hal;have gZ:=hid (gK.out.G hal);have aW:=hid (HD7.out.G hal);have aD:w7.heap.size≠p0:=by have:=gK.out.2.1;omega
   have aj:w7.heap.size≠p4:=by have:=(HD7.out.is aC).1;omega
   generalize w7.heap.size=p2 at *;generalize w7.alloc (.cells #[.bool false,.slice none 0 0] 38)=w8 at *;have eG:=hid hn;have ay:Hid (p0≠p2):=aD.symm;have az:Hid (p2≠p0):=aD;have ah:Hid (p4≠p2):=aj.symm;clear hn hal aC gK HD7 aD aj;refine q03 (l':=#[true,false,true,true,true,true,true,false,true,true,true,true,true,false,false,false,false]) (by kernel_rfl) ?_;revert az;revert av;revert ah;revert ay;revert eG;revert aW;revert gZ;revert aG;revert p2;revert o4;revert p4;revert p0;revert w8;exact tT.out
  refine Later.mk ?_;intro w7 p0 p2 aC gK cB ay az;refine q0d (i:=1) (j:=6) (by kernel_rfl) rfl rfl ?_ ?_
  ·skip
   intro K hK;go_simp;refine hK.out _ _ (Or.inr (aC.alloc _)) ?_;clear hK K;have hn:=NI.new aC 38;have hal:=(G.refl w7).alloc (.cells #[.bool false,.slice none 0 0] 38);have aG:=G.trans aC hal;have gZ:=hid (gK.out.G hal);have eG:=hid (cB.out.G hal);have aD:w7.heap.size≠p0:=by have:=gK.out.2.1;omega
   have ax:w7.heap.size≠p2:=by have:=cB.out.2.1;omega
   generalize w7.heap.size=p1 at *;generalize w7.alloc (.cells #[.bool false,.slice none 0 0] 38)=w8 at *;have bg:=hid hn;have ak:Hid (p0≠p1):=aD.symm;have au:Hid (p1≠p0):=aD;have ag:Hid (p2≠p1):=ax.symm;have af:Hid (p1≠p2):=ax;clear hn hal aC gK cB aD ax;refine q03 (l':=#[true,true,true,true,true,true,false,false,true,true,true,true,true,false,false,false,false]) (by kernel_rfl) ?_;revert az;revert au;revert af;revert ay;revert ag;revert ak;revert eG;revert bg;revert gZ;revert aG;revert p2;revert p1;revert p0;revert w8;exact tO.out
  ·skip
   intro K hK;go_simp;go_wp2_with (go_at_call 51;refine q00 (q0K w w7 aC b2 ya yb dF hby jW.out) ?_;intro e w8 hx;obtain⟨p4,o4,rfl,hg,h72,dY⟩:=hx);refine hK.out _ _ (Or.inr (G.trans aC hg)) ?_;clear hK K;have aG:=G.trans aC hg;have aW:=hid h72;have aD:p4≠p0:=by have h1:=gK.out.1;have h2:=gK.out.2.1;omega
   have ax:p4≠p2:=by have h1:=cB.out.1;have h2:=cB.out.2.1;omega
   have gZ:=hid (gK.out.G hg);have eG:=hid (cB.out.G hg);have av:Hid (p4≠p0):=aD;have ah:Hid (p4≠p2):=ax;clear hg h72 dY aC gK cB aD ax;refine q03 (l':=#[true,false,true,true,true,true,true,false,true,true,true,true,true,false,false,false,false]) (by kernel_rfl) ?_;revert az;revert av;revert ah;revert ay;revert eG;revert aW;revert gZ;revert aG;revert p2;revert o4;revert p4;revert p0;revert w8;exact tT.out
  refine Later.mk ?_;intro w7 p0 p1 aC gK bU ak au;refine q0d (i:=6) (j:=8) (by kernel_rfl) rfl rfl ?_ ?_
  ·skip
   intro K hK;go_simp;go_wp2_with (go_at_call 51;refine q00 (q0K w w7 aC b2 ya yb dF hby jW.out) ?_;intro e w8 hx;obtain⟨p4,o4,rfl,hg,h72,dY⟩:=hx);refine hK.out _ _ (Or.inr (G.trans aC hg)) ?_;clear hK K;have aG:=G.trans aC hg;have aW:=hid h72;have aD:p4≠p0:=by have h1:=gK.out.1;have h2:=gK.out.2.1;omega
   have ae:p4≠p1:=by have h1:=bU.out.1;have h2:=bU.out.2.1;omega
   have gZ:=hid (gK.out.G hg);have bg:=hid (bU.out.G hg);have av:Hid (p4≠p0):=aD;have aa:Hid (p4≠p1):=ae;clear hg h72 dY aC gK bU aD ae;refine q03 (l':=#[true,true,true,true,true,true,true,false,false,true,true,true,true,false,false,false,false]) (by kernel_rfl) ?_;revert av;revert au;revert aa;revert ak;revert aW;revert bg;revert gZ;revert aG;revert o4;revert p4;revert p1;revert p0;revert w8;exact tQ.out
  ·skip
   intro K hK;go_simp;refine hK.out _ _ (Or.inr (aC.alloc _)) ?_;clear hK K;have hn:=NI.new aC 38;have hal:=(G.refl w7).alloc (.cells #[.bool false,.slice none 0 0] 38);have aG:=G.trans aC hal;have gZ:=hid (gK.out.G hal);have bg:=hid (bU.out.G hal);have aD:w7.heap.size≠p0:=by have:=gK.out.2.1;omega
   have ae:w7.heap.size≠p1:=by have:=bU.out.2.1;omega
   generalize w7.heap.size=p2 at *;generalize w7.alloc (.cells #[.bool false,.slice none 0 0] 38)=w8 at *;have eG:=hid hn;have ay:Hid (p0≠p2):=aD.symm;have az:Hid (p2≠p0):=aD;have af:Hid (p1≠p2):=ae.symm;have ag:Hid (p2≠p1):=ae;clear hn hal aC gK bU aD ae;refine q03 (l':=#[true,true,true,true,true,true,false,false,true,true,true,true,true,false,false,false,false]) (by kernel_rfl) ?_;revert az;revert au;revert af;revert ay;revert ag;revert ak;revert eG;revert bg;revert gZ;revert aG;revert p2;revert p1;revert p0;revert w8;exact tO.out
  refine Later.mk ?_;intro w8 p1 p4 o4 p2 aG bg aW eG aa ag af ah;refine q0d (i:=0) (j:=7) (by kernel_rfl) rfl rfl ?_ ?_
  ·skip
   intro K hK;go_simp;refine hK.out _ _ (Or.inr (aG.alloc _)) ?_;clear hK K;have hn:=NI.new aG 38;have hal:=(G.refl w8).alloc (.cells #[.bool false,.slice none 0 0] 38);have aO:=G.trans aG hal;have bX:=hid (bg.out.G hal);have aZ:=hid (aW.out.G hal);have iE:=hid (eG.out.G hal);have ae:w8.heap.size≠p1:=by have:=bg.out.2.1;omega
   have aj:w8.heap.size≠p4:=by have:=(aW.out.is aG).1;omega
   have ax:w8.heap.size≠p2:=by have:=eG.out.2.1;omega
   generalize w8.heap.size=p0 at *;generalize w8.alloc (.cells #[.bool false,.slice none 0 0] 38)=w9 at *;have jX:=hid hn;have au:Hid (p1≠p0):=ae.symm;have ak:Hid (p0≠p1):=ae;have av:Hid (p4≠p0):=aj.symm;have az:Hid (p2≠p0):=ax.symm;have ay:Hid (p0≠p2):=ax;clear hn hal aG bg aW eG ae aj ax;refine q03 (l':=#[true,true,true,true,true,true,true,false,true,true,true,true,true,false,false,false,false]) (by kernel_rfl) ?_;revert az;revert av;revert au;revert ah;revert af;revert ay;revert ag;revert aa;revert ak;revert iE;revert aZ;revert bX;revert jX;revert aO;revert p2;revert o4;revert p4;revert p1;revert p0;revert w9;exact lS.out
  ·skip
   intro K hK;go_simp;have dK:Hid _:=q1p w8 p1 0 bx 0 p4 o4 0 xa yb KB (by omega) iL.out iM.out bg.out.2.1 (G.lt aG hbx) (aW.out.is aG).1 bg.out.2.2 (IntIs.G HX0.out hbx aG) (aW.out.is aG).2;go_wp2_with (go_at_call 50;refine q00 dK.out ?_;intro e w9 hx;obtain⟨rfl,aO,hl,-,hkp⟩:=SetTo.step aG bg.out hx);have bX:=hid hl;have aZ:=hid (DI.keep aW.out (hkp _ _ aa.out));have iE:=hid (hkp _ _ ag.out eG.out);refine hK.out _ _ (Or.inr aO) ?_;clear hK K hx hl hkp dK aG bg aW eG;refine q03 (l':=#[false,true,true,true,true,true,true,true,true,true,true,true,true,false,false,false,false]) (by kernel_rfl) ?_;revert ah;revert af;revert ag;revert aa;revert iE;revert aZ;revert bX;revert aO;revert p2;revert o4;revert p4;revert p1;revert w9;exact dJ.out
  refine Later.mk ?_;intro w8 p0 p4 o4 p2 aG gZ aW eG ay ah av az;refine q04 (i:=1) (by kernel_rfl) rfl ?_;intro K hK;go_simp;refine hK.out _ _ (Or.inr (aG.alloc _)) ?_;clear hK K;have hn:=NI.new aG 38;have hal:=(G.refl w8).alloc (.cells #[.bool false,.slice none 0 0] 38);have aO:=G.trans aG hal;have jX:=hid (gZ.out.G hal);have aZ:=hid (aW.out.G hal);have iE:=hid (eG.out.G hal);have aD:w8.heap.size≠p0:=by have:=gZ.out.2.1;omega
  have aj:w8.heap.size≠p4:=by have:=(aW.out.is aG).1;omega
  have ax:w8.heap.size≠p2:=by have:=eG.out.2.1;omega
  generalize w8.heap.size=p1 at *;generalize w8.alloc (.cells #[.bool false,.slice none 0 0] 38)=w9 at *;have bX:=hid hn;have ak:Hid (p0≠p1):=aD.symm;have au:Hid (p1≠p0):=aD;have aa:Hid (p4≠p1):=aj.symm;have ag:Hid (p2≠p1):=ax.symm;have af:Hid (p1≠p2):=ax;clear hn hal aG gZ aW eG aD aj ax;refine q03 (l':=#[true,true,true,true,true,true,true,false,true,true,true,true,true,false,false,false,false]) (by kernel_rfl) ?_;revert az;revert av;revert au;revert ah;revert af;revert ay;revert ag;revert aa;revert ak;revert iE;revert aZ;revert bX;revert jX;revert aO;revert p2;revert o4;revert p4;revert p1;revert p0;revert w9;exact lS.out;refine Later.mk ?_;intro w8 p0 p1 p4 o4 aG gZ bg aW ak aa au av;refine q0d (i:=7) (j:=8) (by kernel_rfl) rfl rfl ?_ ?_
  ·skip
   intro K hK;go_simp;have dK:Hid _:=q1p w8 p1 0 bx 0 p4 o4 0 xa yb KB (by omega) iL.out iM.out bg.out.2.1 (G.lt aG hbx) (aW.out.is aG).1 bg.out.2.2 (IntIs.G HX0.out hbx aG) (aW.out.is aG).2;go_wp2_with (go_at_call 50;refine q00 dK.out ?_;intro e w9 hx;obtain⟨rfl,aO,hl,-,hkp⟩:=SetTo.step aG bg.out hx);have bX:=hid hl;have jX:=hid (hkp _ _ ak.out gZ.out);have aZ:=hid (DI.keep aW.out (hkp _ _ aa.out));refine hK.out _ _ (Or.inr aO) ?_;clear hK K hx hl hkp dK aG gZ bg aW;refine q03 (l':=#[true,true,true,true,true,true,true,true,false,true,true,true,true,false,false,false,false]) (by kernel_rfl) ?_;revert av;revert au;revert aa;revert ak;revert aZ;revert bX;revert jX;revert aO;revert o4;revert p4;revert p1;revert p0;revert w9;exact tN.out
  ·skip
   intro K hK;go_simp;refine hK.out _ _ (Or.inr (aG.alloc _)) ?_;clear hK K;have hn:=NI.new aG 38;have hal:=(G.refl w8).alloc (.cells #[.bool false,.slice none 0 0] 38);have aO:=G.trans aG hal;have jX:=hid (gZ.out.G hal);have bX:=hid (bg.out.G hal);have aZ:=hid (aW.out.G hal);have aD:w8.heap.size≠p0:=by have:=gZ.out.2.1;omega
   have ae:w8.heap.size≠p1:=by have:=bg.out.2.1;omega
   have aj:w8.heap.size≠p4:=by have:=(aW.out.is aG).1;omega
   generalize w8.heap.size=p2 at *;generalize w8.alloc (.cells #[.bool false,.slice none 0 0] 38)=w9 at *;have iE:=hid hn;have ay:Hid (p0≠p2):=aD.symm;have az:Hid (p2≠p0):=aD;have af:Hid (p1≠p2):=ae.symm;have ag:Hid (p2≠p1):=ae;have ah:Hid (p4≠p2):=aj.symm;clear hn hal aG gZ bg aW aD ae aj;refine q03 (l':=#[true,true,true,true,true,true,true,false,true,true,true,true,true,false,false,false,false]) (by kernel_rfl) ?_;revert az;revert av;revert au;revert ah;revert af;revert ay;revert ag;revert aa;revert ak;revert iE;revert aZ;revert bX;revert jX;revert aO;revert p2;revert o4;revert p4;revert p1;revert p0;revert w9;exact lS.out
  refine Later.mk ?_;intro w8 p0 p1 p2 aG gZ bg eG ak ag ay af au az;refine q04 (i:=6) (by kernel_rfl) rfl ?_;intro K hK;go_simp;go_wp2_with (go_at_call 51;refine q00 (q0K w w8 aG b2 ya yb dF hby jW.out) ?_;intro e w9 hx;obtain⟨p4,o4,rfl,hg,h72,dY⟩:=hx);refine hK.out _ _ (Or.inr (G.trans aG hg)) ?_;clear hK K;have aO:=G.trans aG hg;have aZ:=hid h72;have aD:p4≠p0:=by have h1:=gZ.out.1;have h2:=gZ.out.2.1;omega
  have ae:p4≠p1:=by have h1:=bg.out.1;have h2:=bg.out.2.1;omega
  have ax:p4≠p2:=by have h1:=eG.out.1;have h2:=eG.out.2.1;omega
  have jX:=hid (gZ.out.G hg);have bX:=hid (bg.out.G hg);have iE:=hid (eG.out.G hg);have av:Hid (p4≠p0):=aD;have aa:Hid (p4≠p1):=ae;have ah:Hid (p4≠p2):=ax;clear hg h72 dY aG gZ bg eG aD ae ax;refine q03 (l':=#[true,true,true,true,true,true,true,false,true,true,true,true,true,false,false,false,false]) (by kernel_rfl) ?_;revert az;revert av;revert au;revert ah;revert af;revert ay;revert ag;revert aa;revert ak;revert iE;revert aZ;revert bX;revert jX;revert aO;revert p2;revert o4;revert p4;revert p1;revert p0;revert w9;exact lS.out;refine Later.mk ?_;intro w9 p1 p4 o4 p2 aO bX aZ iE aa ag af ah;refine q0d (i:=0) (j:=13) (by kernel_rfl) rfl rfl ?_ ?_
  ·skip
   intro K hK;go_simp;refine hK.out _ _ (Or.inr (aO.alloc _)) ?_;clear hK K;have hn:=NI.new aO 38;have hal:=(G.refl w9).alloc (.cells #[.bool false,.slice none 0 0] 38);have aF:=G.trans aO hal;have aU:=hid (bX.out.G hal);have aS:=hid (aZ.out.G hal);have aY:=hid (iE.out.G hal);have ae:w9.heap.size≠p1:=by have:=bX.out.2.1;omega
   have aj:w9.heap.size≠p4:=by have:=(aZ.out.is aO).1;omega
   have ax:w9.heap.size≠p2:=by have:=iE.out.2.1;omega
   generalize w9.heap.size=p0 at *;generalize w9.alloc (.cells #[.bool false,.slice none 0 0] 38)=aR at *;have dM:=hid hn;have au:Hid (p1≠p0):=ae.symm;have ak:Hid (p0≠p1):=ae;have av:Hid (p4≠p0):=aj.symm;have az:Hid (p2≠p0):=ax.symm;have ay:Hid (p0≠p2):=ax;clear hn hal aO bX aZ iE ae aj ax;refine q03 (l':=#[true,true,true,true,true,true,true,true,true,true,true,true,true,false,false,false,false]) (by kernel_rfl) ?_;revert az;revert av;revert au;revert ah;revert af;revert ay;revert ag;revert aa;revert ak;revert aY;revert aS;revert aU;revert dM;revert aF;revert p2;revert o4;revert p4;revert p1;revert p0;revert aR;exact lQ.out
  ·skip
   intro K hK;go_simp;go_wp2_with (go_at_call 51;refine q00 (q0K w w9 aO bx xa xb gG hbx nC.out) ?_;intro e aR hx;obtain⟨p3,o3,rfl,hg,h72,dY⟩:=hx);refine hK.out _ _ (Or.inr (G.trans aO hg)) ?_;clear hK K;have aF:=G.trans aO hg;have aX:=hid h72;have ae:p3≠p1:=by have h1:=bX.out.1;have h2:=bX.out.2.1;omega
   have ax:p3≠p2:=by have h1:=iE.out.1;have h2:=iE.out.2.1;omega
   have aU:=hid (bX.out.G hg);have aS:=hid (aZ.out.G hg);have aY:=hid (iE.out.G hg);have aH:Hid (p3≠p1):=ae;have aI:Hid (p3≠p2):=ax;clear hg h72 dY aO bX aZ iE ae ax;refine q03 (l':=#[false,true,true,true,true,true,true,true,true,true,true,true,true,true,false,false,false]) (by kernel_rfl) ?_;revert aI;revert ah;revert af;revert aH;revert ag;revert aa;revert aX;revert aY;revert aS;revert aU;revert aF;revert o3;revert p3;revert p2;revert o4;revert p4;revert p1;revert aR;exact bS.out
  refine Later.mk ?_;intro w9 p0 p1 p4 o4 aO jX bX aZ ak aa au av;refine q0d (i:=8) (j:=13) (by kernel_rfl) rfl rfl ?_ ?_
  ·skip
   intro K hK;go_simp;refine hK.out _ _ (Or.inr (aO.alloc _)) ?_;clear hK K;have hn:=NI.new aO 38;have hal:=(G.refl w9).alloc (.cells #[.bool false,.slice none 0 0] 38);have aF:=G.trans aO hal;have dM:=hid (jX.out.G hal);have aU:=hid (bX.out.G hal);have aS:=hid (aZ.out.G hal);have aD:w9.heap.size≠p0:=by have:=jX.out.2.1;omega
   have ae:w9.heap.size≠p1:=by have:=bX.out.2.1;omega
   have aj:w9.heap.size≠p4:=by have:=(aZ.out.is aO).1;omega
   generalize w9.heap.size=p2 at *;generalize w9.alloc (.cells #[.bool false,.slice none 0 0] 38)=aR at *;have aY:=hid hn;have ay:Hid (p0≠p2):=aD.symm;have az:Hid (p2≠p0):=aD;have af:Hid (p1≠p2):=ae.symm;have ag:Hid (p2≠p1):=ae;have ah:Hid (p4≠p2):=aj.symm;clear hn hal aO jX bX aZ aD ae aj;refine q03 (l':=#[true,true,true,true,true,true,true,true,true,true,true,true,true,false,false,false,false]) (by kernel_rfl) ?_;revert az;revert av;revert au;revert ah;revert af;revert ay;revert ag;revert aa;revert ak;revert aY;revert aS;revert aU;revert dM;revert aF;revert p2;revert o4;revert p4;revert p1;revert p0;revert aR;exact lQ.out
  ·skip
   intro K hK;go_simp;go_wp2_with (go_at_call 51;refine q00 (q0K w w9 aO bx xa xb gG hbx nC.out) ?_;intro e aR hx;obtain⟨p3,o3,rfl,hg,h72,dY⟩:=hx);refine hK.out _ _ (Or.inr (G.trans aO hg)) ?_;clear hK K;have aF:=G.trans aO hg;have aX:=hid h72;have aD:p3≠p0:=by have h1:=jX.out.1;have h2:=jX.out.2.1;omega
   have ae:p3≠p1:=by have h1:=bX.out.1;have h2:=bX.out.2.1;omega
   have dM:=hid (jX.out.G hg);have aU:=hid (bX.out.G hg);have aS:=hid (aZ.out.G hg);have aP:Hid (p3≠p0):=aD;have aH:Hid (p3≠p1):=ae;clear hg h72 dY aO jX bX aZ aD ae;refine q03 (l':=#[true,true,true,true,true,true,true,true,false,true,true,true,true,true,false,false,false]) (by kernel_rfl) ?_;revert aP;revert av;revert au;revert aH;revert aa;revert ak;revert aX;revert aS;revert aU;revert dM;revert aF;revert o3;revert p3;revert o4;revert p4;revert p1;revert p0;revert aR;exact oZ.out
  refine Later.mk ?_;intro w9 p0 p1 p4 o4 p2 aO jX bX aZ iE ak aa ag ay af ah au av az;refine q04 (i:=7) (by kernel_rfl) rfl ?_;intro K hK;go_simp;have dK:Hid _:=q1p w9 p1 0 bx 0 p4 o4 0 xa yb KB (by omega) iL.out iM.out bX.out.2.1 (G.lt aO hbx) (aZ.out.is aO).1 bX.out.2.2 (IntIs.G HX0.out hbx aO) (aZ.out.is aO).2;go_wp2_with (go_at_call 50;refine q00 dK.out ?_;intro e aR hx;obtain⟨rfl,aF,hl,-,hkp⟩:=SetTo.step aO bX.out hx);have aU:=hid hl;have dM:=hid (hkp _ _ ak.out jX.out);have aS:=hid (DI.keep aZ.out (hkp _ _ aa.out));have aY:=hid (hkp _ _ ag.out iE.out);refine hK.out _ _ (Or.inr aF) ?_;clear hK K hx hl hkp dK aO jX bX aZ iE;refine q03 (l':=#[true,true,true,true,true,true,true,true,true,true,true,true,true,false,false,false,false]) (by kernel_rfl) ?_;revert az;revert av;revert au;revert ah;revert af;revert ay;revert ag;revert aa;revert ak;revert aY;revert aS;revert aU;revert dM;revert aF;revert p2;revert o4;revert p4;revert p1;revert p0;revert aR;exact lQ.out;refine Later.mk ?_;intro aR p1 p4 o4 p2 p3 o3 aF aU aS aY aX aa ag aH af ah aI;refine q0d (i:=0) (j:=14) (by kernel_rfl) rfl rfl ?_ ?_
  ·skip
   intro K hK;go_simp;refine hK.out _ _ (Or.inr (aF.alloc _)) ?_;clear hK K;have hn:=NI.new aF 38;have hal:=(G.refl aR).alloc (.cells #[.bool false,.slice none 0 0] 38);have aV:=G.trans aF hal;have gI:=hid (aU.out.G hal);have gU:=hid (aS.out.G hal);have fE:=hid (aY.out.G hal);have fQ:=hid (aX.out.G hal);have ae:aR.heap.size≠p1:=by have:=aU.out.2.1;omega
   have aj:aR.heap.size≠p4:=by have:=(aS.out.is aF).1;omega
   have ax:aR.heap.size≠p2:=by have:=aY.out.2.1;omega
   have bJ:aR.heap.size≠p3:=by have:=(aX.out.is aF).1;omega
   generalize aR.heap.size=p0 at *;generalize aR.alloc (.cells #[.bool false,.slice none 0 0] 38)=dH at *;have mY:=hid hn;have au:Hid (p1≠p0):=ae.symm;have ak:Hid (p0≠p1):=ae;have av:Hid (p4≠p0):=aj.symm;have az:Hid (p2≠p0):=ax.symm;have ay:Hid (p0≠p2):=ax;have aP:Hid (p3≠p0):=bJ.symm;clear hn hal aF aU aS aY aX ae aj ax bJ;refine q03 (l':=#[true,true,true,true,true,true,true,true,true,true,true,true,true,true,false,false,false]) (by kernel_rfl) ?_;revert aP;revert az;revert av;revert au;revert aI;revert ah;revert af;revert ay;revert aH;revert ag;revert aa;revert ak;revert fQ;revert fE;revert gU;revert gI;revert mY;revert aV;revert o3;revert p3;revert p2;revert o4;revert p4;revert p1;revert p0;revert dH;exact jM.out
  ·skip
   intro K hK;go_simp;have dK:Hid _:=q1p aR p2 0 b2 0 p3 o3 0 ya xb KB (by omega) kJ.out kK.out aY.out.2.1 (G.lt aF hby) (aX.out.is aF).1 aY.out.2.2 (IntIs.G qK.out hby aF) (aX.out.is aF).2;go_wp2_with (go_at_call 50;refine q00 dK.out ?_;intro e dH hx;obtain⟨rfl,aV,hl,-,hkp⟩:=SetTo.step aF aY.out hx);have fE:=hid hl;have gI:=hid (hkp _ _ af.out aU.out);have gU:=hid (DI.keep aS.out (hkp _ _ ah.out));have fQ:=hid (DI.keep aX.out (hkp _ _ aI.out));refine hK.out _ _ (Or.inr aV) ?_;clear hK K hx hl hkp dK aF aU aS aY aX;refine q04 (i:=0) (by kernel_rfl) rfl ?_;intro K hK;go_simp;refine hK.out _ _ (Or.inr (aV.alloc _)) ?_;clear hK K;have hn:=NI.new aV 38;have hal:=(G.refl dH).alloc (.cells #[.bool false,.slice none 0 0] 38);have jO:=G.trans aV hal;have iJ:=hid (gI.out.G hal);have lT:=hid (gU.out.G hal);have iI:=hid (fE.out.G hal);have lU:=hid (fQ.out.G hal);have ae:dH.heap.size≠p1:=by have:=gI.out.2.1;omega
   have aj:dH.heap.size≠p4:=by have:=(gU.out.is aV).1;omega
   have ax:dH.heap.size≠p2:=by have:=fE.out.2.1;omega
   have bJ:dH.heap.size≠p3:=by have:=(fQ.out.is aV).1;omega
   generalize dH.heap.size=p0 at *;generalize dH.alloc (.cells #[.bool false,.slice none 0 0] 38)=fT at *;have jq:=hid hn;have au:Hid (p1≠p0):=ae.symm;have ak:Hid (p0≠p1):=ae;have av:Hid (p4≠p0):=aj.symm;have az:Hid (p2≠p0):=ax.symm;have ay:Hid (p0≠p2):=ax;have aP:Hid (p3≠p0):=bJ.symm;clear hn hal aV gI gU fE fQ ae aj ax bJ;refine q03 (l':=#[true,true,true,true,true,true,true,true,true,true,true,true,true,true,true,false,false]) (by kernel_rfl) ?_;revert aP;revert az;revert av;revert au;revert aI;revert ah;revert af;revert ay;revert aH;revert ag;revert aa;revert ak;revert lU;revert iI;revert lT;revert iJ;revert jq;revert jO;revert o3;revert p3;revert p2;revert o4;revert p4;revert p1;revert p0;revert fT;exact kU.out
  refine Later.mk ?_;intro aR p0 p1 p4 o4 p3 o3 aF dM aU aS aX ak aa aH au av aP;refine q04 (i:=8) (by kernel_rfl) rfl ?_;intro K hK;go_simp;refine hK.out _ _ (Or.inr (aF.alloc _)) ?_;clear hK K;have hn:=NI.new aF 38;have hal:=(G.refl aR).alloc (.cells #[.bool false,.slice none 0 0] 38);have aV:=G.trans aF hal;have mY:=hid (dM.out.G hal);have gI:=hid (aU.out.G hal);have gU:=hid (aS.out.G hal);have fQ:=hid (aX.out.G hal);have aD:aR.heap.size≠p0:=by have:=dM.out.2.1;omega
  have ae:aR.heap.size≠p1:=by have:=aU.out.2.1;omega
  have aj:aR.heap.size≠p4:=by have:=(aS.out.is aF).1;omega
  have bJ:aR.heap.size≠p3:=by have:=(aX.out.is aF).1;omega
  generalize aR.heap.size=p2 at *;generalize aR.alloc (.cells #[.bool false,.slice none 0 0] 38)=dH at *;have fE:=hid hn;have ay:Hid (p0≠p2):=aD.symm;have az:Hid (p2≠p0):=aD;have af:Hid (p1≠p2):=ae.symm;have ag:Hid (p2≠p1):=ae;have ah:Hid (p4≠p2):=aj.symm;have aI:Hid (p3≠p2):=bJ.symm;clear hn hal aF dM aU aS aX aD ae aj bJ;refine q03 (l':=#[true,true,true,true,true,true,true,true,true,true,true,true,true,true,false,false,false]) (by kernel_rfl) ?_;revert aP;revert az;revert av;revert au;revert aI;revert ah;revert af;revert ay;revert aH;revert ag;revert aa;revert ak;revert fQ;revert fE;revert gU;revert gI;revert mY;revert aV;revert o3;revert p3;revert p2;revert o4;revert p4;revert p1;revert p0;revert dH;exact jM.out;refine Later.mk ?_;intro aR p0 p1 p4 o4 p2 aF dM aU aS aY ak aa ag ay af ah au av az;refine q04 (i:=13) (by kernel_rfl) rfl ?_;intro K hK;go_simp;go_wp2_with (go_at_call 51;refine q00 (q0K w aR aF bx xa xb gG hbx nC.out) ?_;intro e dH hx;obtain⟨p3,o3,rfl,hg,h72,dY⟩:=hx);refine hK.out _ _ (Or.inr (G.trans aF hg)) ?_;clear hK K;have aV:=G.trans aF hg;have fQ:=hid h72;have aD:p3≠p0:=by have h1:=dM.out.1;have h2:=dM.out.2.1;omega
  have ae:p3≠p1:=by have h1:=aU.out.1;have h2:=aU.out.2.1;omega
  have ax:p3≠p2:=by have h1:=aY.out.1;have h2:=aY.out.2.1;omega
  have mY:=hid (dM.out.G hg);have gI:=hid (aU.out.G hg);have gU:=hid (aS.out.G hg);have fE:=hid (aY.out.G hg);have aP:Hid (p3≠p0):=aD;have aH:Hid (p3≠p1):=ae;have aI:Hid (p3≠p2):=ax;clear hg h72 dY aF dM aU aS aY aD ae ax;refine q03 (l':=#[true,true,true,true,true,true,true,true,true,true,true,true,true,true,false,false,false]) (by kernel_rfl) ?_;revert aP;revert az;revert av;revert au;revert aI;revert ah;revert af;revert ay;revert aH;revert ag;revert aa;revert ak;revert fQ;revert fE;revert gU;revert gI;revert mY;revert aV;revert o3;revert p3;revert p2;revert o4;revert p4;revert p1;revert p0;revert dH;exact jM.out;refine Later.mk ?_;intro dH p0 p1 p4 o4 p2 p3 o3 aV mY gI gU fE fQ ak aa ag aH ay af ah aI au av az aP;refine q04 (i:=14) (by kernel_rfl) rfl ?_;intro K hK;go_simp;have dK:Hid _:=q1p dH p2 0 b2 0 p3 o3 0 ya xb KB (by omega) kJ.out kK.out fE.out.2.1 (G.lt aV hby) (fQ.out.is aV).1 fE.out.2.2 (IntIs.G qK.out hby aV) (fQ.out.is aV).2;go_wp2_with (go_at_call 50;refine q00 dK.out ?_;intro e fT hx;obtain⟨rfl,jO,hl,-,hkp⟩:=SetTo.step aV fE.out hx);have iI:=hid hl;have jq:=hid (hkp _ _ ay.out mY.out);have iJ:=hid (hkp _ _ af.out gI.out);have lT:=hid (DI.keep gU.out (hkp _ _ ah.out));have lU:=hid (DI.keep fQ.out (hkp _ _ aI.out));refine hK.out _ _ (Or.inr jO) ?_;clear hK K hx hl hkp dK aV mY gI gU fE fQ;refine q03 (l':=#[true,true,true,true,true,true,true,true,true,true,true,true,true,true,true,false,false]) (by kernel_rfl) ?_;revert aP;revert az;revert av;revert au;revert aI
  revert ah;revert af;revert ay;revert aH;revert ag;revert aa;revert ak;revert lU;revert iI;revert lT;revert iJ;revert jq;revert jO;revert o3;revert p3;revert p2;revert o4;revert p4;revert p1;revert p0;revert fT;exact kU.out;refine Later.mk ?_;intro fT p0 p1 p4 o4 p2 p3 o3 jO jq iJ lT iI lU ak aa ag aH ay af ah aI au av az aP;refine q04 (i:=15) (by kernel_rfl) rfl ?_;intro K hK;go_simp;have dK:Hid _:=q7l fT p0 0 p1 0 p2 0 0 (xa*(yb:Int)) (ya*(xb:Int)) (2*KB) (by omega) ny.out bW.out jq.out.2.1 iJ.out.2.1 iI.out.2.1 jq.out.2.2 iJ.out.2.2 iI.out.2.2;go_wp2_with (go_at_call 55;refine q00 dK.out ?_;intro e kV hx;obtain⟨rfl,vY,hl,-,hkp⟩:=SetTo.step jO jq.out hx);have vZ:=hid hl;have Ai:=hid (hkp _ _ au.out iJ.out);have Aj:=hid (DI.keep lT.out (hkp _ _ av.out));have Ak:=hid (hkp _ _ az.out iI.out);have Al:=hid (DI.keep lU.out (hkp _ _ aP.out));refine hK.out _ _ (Or.inl (by decide)) ?_;clear hK K hx hl hkp dK jO jq iJ lT iI lU;refine q04 (i:=16) (by kernel_rfl) rfl ?_;intro K hK;go_simp;refine hK.out _ _ (Or.inl (by decide)) ?_;clear hK K;refine q0m (by kernel_rfl) ?_ _;revert aP;revert az;revert av;revert au;revert aI;revert ah;revert af;revert ay;revert aH;revert ag;revert aa;revert ak;revert Al;revert Ak;revert Aj;revert Ai;revert vZ;revert vY;revert o3;revert p3;revert p2;revert o4;revert p4;revert p1;revert p0;revert kV;exact LX.out
 ·skip
  refine Later.mk ?_;intro kV p0 p1 p4 o4 p2 p3 o3 vY vZ Ai Aj Ak Al ak aa ag aH ay af ah aI au av az aP;clear ak aa ag aH ay af ah aI au av az aP;have HS:=vZ.out;have hG:=vY;clear vZ Ai Ak Aj Al vY;have AP:Hid (NI w kV p0 (xa*(yb:Int)+ya*(xb:Int))):=HS;clear HS;go_wp2_with fail;have hn0:=NI.new hG 38;have hal:=(G.refl kV).alloc (.cells #[.bool false,.slice none 0 0] 38);have hG1:=G.trans hG hal;have hs1:=AP.out.G hal;have hne:p0≠kV.heap.size:=by have:=AP.out.2.1;omega
  generalize kV.heap.size=pd at *;generalize kV.alloc (.cells #[.bool false,.slice none 0 0] 38)=v1 at *;have iR:Hid (NI w v1 pd 0):=hn0;have iZ:Hid (NI w v1 p0 (xa*(yb:Int)+ya*(xb:Int))):=hs1;clear hn0 hal hs1 hG AP;refine q00 (q0K w v1 hG1 bx xa xb gG hbx nC.out) ?_;rintro e v2 ⟨pe,oe,rfl,hg2,k2,-⟩;have HE2:Hid (DI w v2 pe oe xb):=k2;clear k2;have hG2:=G.trans hG1 hg2;have nU:Hid (NI w v2 pd 0):=iR.out.G hg2;have HS2:Hid (NI w v2 p0 (xa*(yb:Int)+ya*(xb:Int))):=iZ.out.G hg2;clear hG1 hg2 iR iZ;go_wp2_with fail;refine q00 (q0K w v2 hG2 b2 ya yb dF hby jW.out) ?_;rintro e v3 ⟨pf,of,rfl,hg3,k3,-⟩;have yR:Hid (DI w v3 pf of yb):=k3;have hG3:=G.trans hG2 hg3;have Gq:Hid (NI w v3 pd 0):=nU.out.G hg3;have qD:Hid (NI w v3 p0 (xa*(yb:Int)+ya*(xb:Int))):=HS2.out.G hg3;have Oo:Hid (DI w v3 pe oe xb):=HE2.out.G hg3;clear hG2 hg3 nU HS2 HE2 k3;have HM:Hid _:=q1p v3 pd 0 pe oe pf of 0 xb yb KB (by omega) kK.out iM.out Gq.out.2.1 (Oo.out.is hG3).1 (yR.out.is hG3).1 Gq.out.2.2 (Oo.out.is hG3).2 (yR.out.is hG3).2;go_wp2_with fail;refine q00 HM.out ?_;intro e v4 hs;obtain⟨rfl,hG4,mo,-,hkp⟩:=SetTo.step hG3 Gq.out hs;have DL:Hid (NI w v4 p0 (xa*(yb:Int)+ya*(xb:Int))):=hkp p0 _ hne qD.out;rw[show (xb:Int)*yb=((xb*yb:Nat):Int) from by push_cast;rfl] at mo;have Ld:Hid (NI w v4 pd ((xb*yb:Nat):Int)):=mo;clear hs hkp mo HM Gq qD hG3 hne
  have HF:Hid _:=q0Z v4 bz p0 0 pd 0 s1 s2 (xa*(yb:Int)+ya*(xb:Int)) (xb*yb) (2*KB+1) (by omega) TD.out HD2.out HD0.out (G.lt hG4 hbz) DL.out.2.1 Ld.out.2.1 (EY.out.G hbz hG4) DL.out.2.2 Ld.out.2.2;go_wp2_with fail;refine q00 HF.out ?_;intro e v5 hs;obtain⟨rfl,k1,k2⟩:=NormTo.after hG4 hs;have iP:Hid _:=k2;clear hs k2 HF DL Ld;go_wp2_with fail;go_ret;exact⟨rfl,k1,iP.out⟩
set_option maxHeartbeats 4000000 in
theorem qcc (w:World) (bz bx b2:Nat) (s1 s2 xa ya:Int) (xb yb:Nat) (KB:Nat) (hK:KB≤100000) (hx2:xa.natAbs<2^(32*KB)) (hy2:ya.natAbs<2^(32*KB)) (fP:xb<2^(32*KB)) (gF:yb<2^(32*KB)) (hxb:0<xb) (hyb:0<yb)
  (hbz:bz<w.heap.size) (hbx:bx<w.heap.size) (hby:b2<w.heap.size) (hz:RatIs w bz s1 s2) (hx:RatV w bx xa xb) (hy:RatV w b2 ya yb):
  Calls Tryz.prog 14 #[.pointer (some ⟨bz,0,none⟩),.pointer (some ⟨bx,0,none⟩),.pointer (some ⟨b2,0,none⟩)] w (NormTo w bz (Int.tdiv (xa*ya) (Nat.gcd (xa*ya).natAbs (xb*yb):Nat)) (xb*yb/Nat.gcd (xa*ya).natAbs (xb*yb))):=by
 have iL:Hid (xa.natAbs<2^(32*KB)):=hx2;have kJ:Hid (ya.natAbs<2^(32*KB)):=hy2;have kK:Hid ((xb:Int).natAbs<2^(32*KB)):=by show (xb:Int).natAbs<2^(32*KB);rw[Int.natAbs_natCast];exact fP
 have iM:Hid ((yb:Int).natAbs<2^(32*KB)):=by show (yb:Int).natAbs<2^(32*KB);rw[Int.natAbs_natCast];exact gF
 have HX0:Hid (IntIs w bx 0 xa):=hx.num;have qK:Hid (IntIs w b2 0 ya):=hy.num;have nC:Hid (RatV w bx xa xb):=hx;have jW:Hid (RatV w b2 ya yb):=hy;have EY:Hid (RatIs w bz s1 s2):=hz;have gG:0<xb:=hxb;have dF:0<yb:=hyb;have bW:Hid ((xa*ya).natAbs<2^(32*(2*KB))):=by
  show (xa*ya).natAbs<2^(32*(2*KB));rw[Int.natAbs_mul,show 32*(2*KB)=32*KB+32*KB from by omega,Nat.pow_add];exact Nat.mul_lt_mul'' hx2 hy2
 have HD2:Hid (xb*yb<2^(32*(2*KB))):=by
  show xb*yb<2^(32*(2*KB));rw[show 32*(2*KB)=32*KB+32*KB from by omega,Nat.pow_add];exact Nat.mul_lt_mul'' fP gF
 have HD0:Hid (0<xb*yb):=Nat.mul_pos hxb hyb;have qg:Hid ((xb:Int)*yb=((xb*yb:Nat):Int)):=by show (xb:Int)*yb=((xb*yb:Nat):Int);push_cast;rfl
 clear hx hy hz hx2 hy2 fP gF hxb hyb;go_enter Tryz.func14,Tryz.ntmps14;go_wp2_with fail;refine q0L 15 (G w) (by kernel_rfl) (by first|exact(G.refl _).drew|exact G.drew (by assumption)) ?_;intro bn;refine q02 0 (v:= ?_) rfl (by kernel_rfl) (fun _ _ _ h=>h) rfl ?_ ‹_› ?_;rotate_left
 ·intro wq hwq
  first|(go_simp;done)|(go_simp;with_reducible rfl)
 try simp only[aput,List.set]
 refine q02 2 (v:= ?_) rfl (by kernel_rfl) (fun _ _ _ h=>h) rfl ?_ ‹_› ?_;rotate_left
 ·intro wq hwq
  first|(go_simp;done)|(go_simp;with_reducible rfl)
 try simp only[aput,List.set]
 refine q02 3 (v:= ?_) rfl (by kernel_rfl) (fun _ _ _ h=>h) rfl ?_ ‹_› ?_;rotate_left
 ·intro wq hwq
  first|(go_simp;done)|(go_simp;with_reducible rfl)
 try simp only[aput,List.set]
 refine q02 4 (v:= ?_) rfl (by kernel_rfl) (fun _ _ _ h=>h) rfl ?_ ‹_› ?_;rotate_left
 ·intro wq hwq
  first|(go_simp;done)|(go_simp;with_reducible rfl)
 try simp only[aput,List.set]
 refine q02 5 (v:= ?_) rfl (by kernel_rfl) (fun _ _ _ h=>h) rfl ?_ ‹_› ?_;rotate_left
 ·intro wq hwq
  first|(go_simp;done)|(go_simp;with_reducible rfl)
 try simp only[aput,List.set]
 refine q02 6 (v:= ?_) rfl (by kernel_rfl) (fun _ _ _ h=>h) rfl ?_ ‹_› ?_;rotate_left
 ·intro wq hwq
  first|(go_simp;done)|(go_simp;with_reducible rfl)
 try simp only[aput,List.set]
 refine q02 7 (v:= ?_) rfl (by kernel_rfl) (fun _ _ _ h=>h) rfl ?_ ‹_› ?_;rotate_left
 ·intro wq hwq
  first|(go_simp;done)|(go_simp;with_reducible rfl)
 try simp only[aput,List.set]
 refine q02 10 (v:= ?_) rfl (by kernel_rfl) (fun _ _ _ h=>h) rfl ?_ ‹_› ?_;rotate_left
 ·intro wq hwq
  first|(go_simp;done)|(go_simp;with_reducible rfl)
 try simp only[aput,List.set]
 refine q02 12 (v:= ?_) rfl (by kernel_rfl) (fun _ _ _ h=>h) rfl ?_ ‹_› ?_;rotate_left
 ·intro wq hwq
  first|(go_simp;done)|(go_simp;with_reducible rfl)
 try simp only[aput,List.set]
 show q0F _ _ _ _ _ _ _ _ _ w.drew;have hS5:=bn;generalize w.drew=w5 at *;clear bn;apply share;intro bS;apply share;intro dJ;apply share;intro xe;apply share;intro jN;refine q0d (i:=1) (j:=9) (by kernel_rfl) rfl rfl ?_ ?_
 ·skip
  intro K hK;go_simp;refine hK.out _ _ (Or.inr (hS5.alloc _)) ?_;clear hK K;have hn:=NI.new hS5 38;have hal:=(G.refl w5).alloc (.cells #[.bool false,.slice none 0 0] 38);have aM:=G.trans hS5 hal;generalize w5.heap.size=pn at *;generalize w5.alloc (.cells #[.bool false,.slice none 0 0] 38)=w6 at *;have qi:=hid hn;clear hn hal;refine q0d (i:=8) (j:=9) (by kernel_rfl) rfl rfl ?_ ?_
  ·skip
   intro K hK;go_simp;have dK:Hid _:=q1p w6 pn 0 bx 0 b2 0 0 xa ya KB (by omega) iL.out kJ.out qi.out.2.1 (G.lt aM hbx) (G.lt aM hby) qi.out.2.2 (IntIs.G HX0.out hbx aM) (IntIs.G qK.out hby aM);go_wp2_with (go_at_call 50;refine q00 dK.out ?_;intro e w7 hx;obtain⟨rfl,aC,hl,-,hkp⟩:=SetTo.step aM qi.out hx);have dC:=hid hl;refine hK.out _ _ (Or.inr aC) ?_;clear hK K hx hl hkp dK aM qi;refine q0d (i:=9) (j:=11) (by kernel_rfl) rfl rfl ?_ ?_
   ·skip
    intro K hK;go_simp;refine hK.out _ _ (Or.inr (aC.alloc _)) ?_;clear hK K;have hn:=NI.new aC 38;have hal:=(G.refl w7).alloc (.cells #[.bool false,.slice none 0 0] 38);have aG:=G.trans aC hal;have gV:=hid (dC.out.G hal);have aJ:w7.heap.size≠pn:=by have:=dC.out.2.1;omega
    generalize w7.heap.size=pd at *;generalize w7.alloc (.cells #[.bool false,.slice none 0 0] 38)=w8 at *;have kS:=hid hn;have aA:Hid (pn≠pd):=aJ.symm;have aB:Hid (pd≠pn):=aJ;clear hn hal aC dC aJ;refine q03 (l':=#[true,true,true,true,true,true,true,true,true,true,true,false,true,false,false,false,false]) (by kernel_rfl) ?_;revert aA;revert aB;revert kS;revert gV;revert aG;revert pd;revert pn;revert w8;exact xe.out
   ·skip
    intro K hK;go_simp;go_wp2_with (go_at_call 51;refine q00 (q0K w w7 aC bx xa xb gG hbx nC.out) ?_;intro e w8 hx;obtain⟨p3,o3,rfl,hg,h72,dY⟩:=hx);refine hK.out _ _ (Or.inr (G.trans aC hg)) ?_;clear hK K;have aG:=G.trans aC hg;have aW:=hid h72;have aJ:p3≠pn:=by have h1:=dC.out.1;have h2:=dC.out.2.1;omega
    have gV:=hid (dC.out.G hg);have fF:Hid (p3≠pn):=aJ;clear hg h72 dY aC dC aJ;refine q0d (i:=9) (j:=13) (by kernel_rfl) rfl rfl ?_ ?_
    ·skip
     intro K hK;go_simp;refine hK.out _ _ (Or.inr (aG.alloc _)) ?_;clear hK K;have hn:=NI.new aG 38;have hal:=(G.refl w8).alloc (.cells #[.bool false,.slice none 0 0] 38);have aO:=G.trans aG hal;have jP:=hid (gV.out.G hal);have aZ:=hid (aW.out.G hal);have aJ:w8.heap.size≠pn:=by have:=gV.out.2.1;omega
     have aj:w8.heap.size≠p3:=by have:=(aW.out.is aG).1;omega
     generalize w8.heap.size=pd at *;generalize w8.alloc (.cells #[.bool false,.slice none 0 0] 38)=w9 at *;have lM:=hid hn;have aA:Hid (pn≠pd):=aJ.symm;have aB:Hid (pd≠pn):=aJ;have dG:Hid (p3≠pd):=aj.symm;clear hn hal aG gV aW aJ aj;refine q03 (l':=#[true,true,true,true,true,true,true,true,true,true,true,true,true,false,false,false,false]) (by kernel_rfl) ?_;revert dG;revert aA;revert fF;revert aB;revert aZ;revert lM;revert jP;revert aO;revert o3;revert p3;revert pd;revert pn;revert w9;exact dJ.out
    ·skip
     intro K hK;go_simp;go_wp2_with (go_at_call 51;refine q00 (q0K w w8 aG b2 ya yb dF hby jW.out) ?_;intro e w9 hx;obtain⟨p4,o4,rfl,hg,h72,dY⟩:=hx);refine hK.out _ _ (Or.inr (G.trans aG hg)) ?_;clear hK K;have aO:=G.trans aG hg;have p8:=hid h72;have aJ:p4≠pn:=by have h1:=gV.out.1;have h2:=gV.out.2.1;omega
     have jP:=hid (gV.out.G hg);have aZ:=hid (aW.out.G hg);have jo:Hid (p4≠pn):=aJ;clear hg h72 dY aG gV aW aJ;refine q04 (i:=9) (by kernel_rfl) rfl ?_;intro K hK;go_simp;refine hK.out _ _ (Or.inr (aO.alloc _)) ?_;clear hK K;have hn:=NI.new aO 38;have hal:=(G.refl w9).alloc (.cells #[.bool false,.slice none 0 0] 38);have aF:=G.trans aO hal;have iV:=hid (jP.out.G hal);have aS:=hid (aZ.out.G hal);have aX:=hid (p8.out.G hal);have aJ:w9.heap.size≠pn:=by have:=jP.out.2.1;omega
     have aj:w9.heap.size≠p3:=by have:=(aZ.out.is aO).1;omega
     have bJ:w9.heap.size≠p4:=by have:=(p8.out.is aO).1;omega
     generalize w9.heap.size=pd at *;generalize w9.alloc (.cells #[.bool false,.slice none 0 0] 38)=aR at *;have dO:=hid hn;have aA:Hid (pn≠pd):=aJ.symm;have aB:Hid (pd≠pn):=aJ;have dG:Hid (p3≠pd):=aj.symm;have iN:Hid (p4≠pd):=bJ.symm;clear hn hal aO jP aZ p8 aJ aj bJ;refine q03 (l':=#[true,true,true,true,true,true,true,true,true,true,true,true,true,true,false,false,false]) (by kernel_rfl) ?_;revert iN;revert dG;revert aA;revert jo;revert fF;revert aB;revert aX;revert aS;revert dO;revert iV;revert aF;revert o4;revert p4;revert o3;revert p3;revert pd;revert pn;revert aR;exact bS.out
  ·skip
   intro K hK;go_simp;refine hK.out _ _ (Or.inr (aM.alloc _)) ?_;clear hK K;have hn:=NI.new aM 38;have hal:=(G.refl w6).alloc (.cells #[.bool false,.slice none 0 0] 38);have aC:=G.trans aM hal;have dC:=hid (qi.out.G hal);have aJ:w6.heap.size≠pn:=by have:=qi.out.2.1;omega
   generalize w6.heap.size=pd at *;generalize w6.alloc (.cells #[.bool false,.slice none 0 0] 38)=w7 at *;have jD:=hid hn;have aA:Hid (pn≠pd):=aJ.symm;have aB:Hid (pd≠pn):=aJ;clear hn hal aM qi aJ;refine q03 (l':=#[true,true,true,true,true,true,true,true,false,true,true,false,true,false,false,false,false]) (by kernel_rfl) ?_;revert aA;revert aB;revert jD;revert dC;revert aC;revert pd;revert pn;revert w7;exact jN.out
 ·skip
  intro K hK;go_simp;refine hK.out _ _ (Or.inr (hS5.alloc _)) ?_;clear hK K;have hn:=NI.new hS5 38;have hal:=(G.refl w5).alloc (.cells #[.bool false,.slice none 0 0] 38);have aM:=G.trans hS5 hal;generalize w5.heap.size=pd at *;generalize w5.alloc (.cells #[.bool false,.slice none 0 0] 38)=w6 at *;have tX:=hid hn;clear hn hal;refine q04 (i:=1) (by kernel_rfl) rfl ?_;intro K hK;go_simp;refine hK.out _ _ (Or.inr (aM.alloc _)) ?_;clear hK K;have hn:=NI.new aM 38;have hal:=(G.refl w6).alloc (.cells #[.bool false,.slice none 0 0] 38);have aC:=G.trans aM hal;have jD:=hid (tX.out.G hal);have dh:w6.heap.size≠pd:=by have:=tX.out.2.1;omega
  generalize w6.heap.size=pn at *;generalize w6.alloc (.cells #[.bool false,.slice none 0 0] 38)=w7 at *;have dC:=hid hn;have aB:Hid (pd≠pn):=dh.symm;have aA:Hid (pn≠pd):=dh;clear hn hal aM tX dh;refine q03 (l':=#[true,true,true,true,true,true,true,true,false,true,true,false,true,false,false,false,false]) (by kernel_rfl) ?_;revert aA;revert aB;revert jD;revert dC;revert aC;revert pd;revert pn;revert w7;exact jN.out
 refine Later.mk ?_;intro w7 pn pd aC dC jD aB aA;refine q04 (i:=8) (by kernel_rfl) rfl ?_;intro K hK;go_simp;have dK:Hid _:=q1p w7 pn 0 bx 0 b2 0 0 xa ya KB (by omega) iL.out kJ.out dC.out.2.1 (G.lt aC hbx) (G.lt aC hby) dC.out.2.2 (IntIs.G HX0.out hbx aC) (IntIs.G qK.out hby aC);go_wp2_with (go_at_call 50;refine q00 dK.out ?_;intro e w8 hx;obtain⟨rfl,aG,hl,-,hkp⟩:=SetTo.step aC dC.out hx);have gV:=hid hl;have kS:=hid (hkp _ _ aB.out jD.out);refine hK.out _ _ (Or.inr aG) ?_;clear hK K hx hl hkp dK aC dC jD;refine q03 (l':=#[true,true,true,true,true,true,true,true,true,true,true,false,true,false,false,false,false]) (by kernel_rfl) ?_;revert aA;revert aB;revert kS;revert gV;revert aG;revert pd;revert pn;revert w8;exact xe.out;refine Later.mk ?_;intro w8 pn pd aG gV kS aB aA;refine q04 (i:=11) (by kernel_rfl) rfl ?_;intro K hK;go_simp;go_wp2_with (go_at_call 51;refine q00 (q0K w w8 aG bx xa xb gG hbx nC.out) ?_;intro e w9 hx;obtain⟨p3,o3,rfl,hg,h72,dY⟩:=hx);refine hK.out _ _ (Or.inr (G.trans aG hg)) ?_;clear hK K;have aO:=G.trans aG hg;have aZ:=hid h72;have aJ:p3≠pn:=by have h1:=gV.out.1;have h2:=gV.out.2.1;omega
 have dh:p3≠pd:=by have h1:=kS.out.1;have h2:=kS.out.2.1;omega
 have jP:=hid (gV.out.G hg);have lM:=hid (kS.out.G hg);have fF:Hid (p3≠pn):=aJ;have dG:Hid (p3≠pd):=dh;clear hg h72 dY aG gV kS aJ dh;refine q03 (l':=#[true,true,true,true,true,true,true,true,true,true,true,true,true,false,false,false,false]) (by kernel_rfl) ?_;revert dG;revert aA;revert fF;revert aB;revert aZ;revert lM;revert jP;revert aO;revert o3;revert p3;revert pd;revert pn;revert w9;exact dJ.out;refine Later.mk ?_;intro w9 pn pd p3 o3 aO jP lM aZ aB fF aA dG;refine q04 (i:=13) (by kernel_rfl) rfl ?_;intro K hK;go_simp;go_wp2_with (go_at_call 51;refine q00 (q0K w w9 aO b2 ya yb dF hby jW.out) ?_;intro e aR hx;obtain⟨p4,o4,rfl,hg,h72,dY⟩:=hx);refine hK.out _ _ (Or.inr (G.trans aO hg)) ?_;clear hK K;have aF:=G.trans aO hg;have aX:=hid h72;have aJ:p4≠pn:=by have h1:=jP.out.1;have h2:=jP.out.2.1;omega
 have dh:p4≠pd:=by have h1:=lM.out.1;have h2:=lM.out.2.1;omega
 have iV:=hid (jP.out.G hg);have dO:=hid (lM.out.G hg);have aS:=hid (aZ.out.G hg);have jo:Hid (p4≠pn):=aJ;have iN:Hid (p4≠pd):=dh;clear hg h72 dY aO jP lM aZ aJ dh;refine q03 (l':=#[true,true,true,true,true,true,true,true,true,true,true,true,true,true,false,false,false]) (by kernel_rfl) ?_;revert iN;revert dG;revert aA;revert jo;revert fF;revert aB;revert aX;revert aS;revert dO;revert iV;revert aF;revert o4;revert p4;revert o3;revert p3;revert pd;revert pn;revert aR;exact bS.out;refine Later.mk ?_;intro aR pn pd p3 o3 p4 o4 aF iV dO aS aX aB fF jo aA dG iN;refine q04 (i:=14) (by kernel_rfl) rfl ?_;intro K hK;go_simp;have dK:Hid _:=qg.out▸q1p aR pd 0 p3 o3 p4 o4 0 xb yb KB (by omega) kK.out iM.out dO.out.2.1 (aS.out.is aF).1 (aX.out.is aF).1 dO.out.2.2 (aS.out.is aF).2 (aX.out.is aF).2;go_wp2_with (go_at_call 50;refine q00 dK.out ?_;intro e dH hx;obtain⟨rfl,aV,hl,-,hkp⟩:=SetTo.step aF dO.out hx);have jg:=hid hl;have tY:=hid (hkp _ _ aA.out iV.out);have gU:=hid (DI.keep aS.out (hkp _ _ dG.out));have fQ:=hid (DI.keep aX.out (hkp _ _ iN.out));refine hK.out _ _ (Or.inr aV) ?_;clear hK K hx hl hkp dK aF iV dO aS aX;refine q04 (i:=15) (by kernel_rfl) rfl ?_;intro K hK;go_simp;have wo:Hid _:=q0Z dH bz pn 0 pd 0 s1 s2 (xa*ya) (xb*yb) (2*KB) (by omega) bW.out HD2.out HD0.out (G.lt aV hbz) tY.out.2.1 jg.out.2.1 (EY.out.G hbz aV) tY.out.2.2 jg.out.2.2;go_wp2_with (go_at_call 49;refine q00 wo.out ?_;intro e fT hx;obtain⟨rfl,k1,k2⟩:=NormTo.after aV hx);have iP:Hid _:=k2
 refine hK.out _ _ (Or.inl (by decide)) ?_;clear hx k2 hK K wo;refine q04 (i:=16) (by kernel_rfl) rfl ?_;intro K hK;go_simp;refine hK.out _ _ (Or.inl (by decide)) ?_;clear hK K;refine q0m (by kernel_rfl) ?_ _;go_wp2_with fail;go_ret;exact⟨rfl,k1,iP.out⟩
set_option maxRecDepth 10000 in
set_option maxHeartbeats 8000000 in
theorem qbb (w:World) (bx b2:Nat) (xa ya:Int) (xb yb:Nat) (KB:Nat) (hK:KB≤100000) (hx2:xa.natAbs<2^(32*KB)) (hy2:ya.natAbs<2^(32*KB)) (fP:xb<2^(32*KB)) (gF:yb<2^(32*KB)) (hxb:0<xb) (hyb:0<yb)
  (hbx:bx<w.heap.size) (hby:b2<w.heap.size) (hx:RatV w bx xa xb) (hy:RatV w b2 ya yb):
  Calls Tryz.prog 65 #[.pointer (some ⟨bx,0,none⟩),.pointer (some ⟨b2,0,none⟩)] w fun e w'=>e= .returned (.int .i64 (cmpI (xa*(yb:Int)) (ya*(xb:Int))))∧G w w':=by
 have iL:Hid (xa.natAbs<2^(32*KB)):=hx2;have kJ:Hid (ya.natAbs<2^(32*KB)):=hy2;have kK:Hid ((xb:Int).natAbs<2^(32*KB)):=by show (xb:Int).natAbs<2^(32*KB);rw[Int.natAbs_natCast];exact fP
 have iM:Hid ((yb:Int).natAbs<2^(32*KB)):=by show (yb:Int).natAbs<2^(32*KB);rw[Int.natAbs_natCast];exact gF
 have HX0:Hid (IntIs w bx 0 xa):=hx.num;have qK:Hid (IntIs w b2 0 ya):=hy.num;have nC:Hid (RatV w bx xa xb):=hx;have jW:Hid (RatV w b2 ya yb):=hy;have gG:0<xb:=hxb;have dF:0<yb:=hyb;have vX:32*(2*KB)=32*KB+32*KB:=by omega
 have ny:Hid ((xa*(yb:Int)).natAbs<2^(32*(2*KB))):=by
  show (xa*(yb:Int)).natAbs<2^(32*(2*KB));rw[Int.natAbs_mul,Int.natAbs_natCast,vX,Nat.pow_add];exact Nat.mul_lt_mul'' hx2 gF
 have bW:Hid ((ya*(xb:Int)).natAbs<2^(32*(2*KB))):=by
  show (ya*(xb:Int)).natAbs<2^(32*(2*KB));rw[Int.natAbs_mul,Int.natAbs_natCast,vX,Nat.pow_add];exact Nat.mul_lt_mul'' hy2 fP
 have Gu:Hid (∀ w1 px ox py oy,px<w1.heap.size→py<w1.heap.size→IntIs w1 px ox (xb:Int)→IntIs w1 py oy (yb:Int)→_):=fun w1 px ox py oy h1 h2 h3 h4=>q4L w1 px ox py oy (xb:Int) (yb:Int) KB (by omega) kK.out iM.out h1 h2 h3 h4;by_cases he:xb=yb
 ·subst he;have h1:cmpI (xb:Int) (xb:Int)=0:=by unfold cmpI;rw[if_neg (by omega),if_pos rfl]
  rw[h1] at Gu;rw[q96 hxb];have TE:Hid (∀ w1,G w w1→_):=fun w1 g=>q4L w1 bx 0 b2 0 xa ya KB (by omega) iL.out kJ.out (G.lt g hbx) (G.lt g hby) (IntIs.G HX0.out hbx g) (IntIs.G qK.out hby g);generalize cmpI xa ya=cv at *;clear hx hy hx2 hy2 fP gF hxb hyb h1 ny bW vX;go_enter Tryz.func65,Tryz.ntmps65;go_wp2_with fail;refine q00 (q0K w w (G.refl w) bx xa xb gG hbx nC.out) ?_;rintro e w1 ⟨px,ox,rfl,hg1,kx,-⟩;have Fh:Hid (DI w w1 px ox xb):=kx;clear kx;go_wp2_with fail;refine q00 (q0K w w1 hg1 b2 ya xb dF hby jW.out) ?_;rintro e w2 ⟨py,oy,rfl,hg2,ky,-⟩;have Bb:Hid (DI w w2 py oy xb):=ky;have qj:Hid (DI w w2 px ox xb):=Fh.out.G hg2;have hG2:=G.trans hg1 hg2;clear ky Fh;clear hg1 hg2;go_wp2_with fail;refine q00 (Gu.out w2 px ox py oy (qj.out.is hG2).1 (Bb.out.is hG2).1 (qj.out.is hG2).2 (Bb.out.is hG2).2) ?_;rintro e w3 ⟨rfl,hg3⟩;have hG3:=G.trans hG2 hg3;clear hg3 hG2;go_wp2_with fail;refine q0L 6 (G w3) (by kernel_rfl) (by first|exact(G.refl _).drew|exact G.drew (by assumption)) ?_;intro bn;refine q02 0 (v:= ?_) rfl (by kernel_rfl) (fun _ _ _ h=>h) rfl ?_ ‹_› ?_;rotate_left
  ·intro wq hwq
   first|(go_simp;done)|(go_simp;with_reducible rfl)
  try simp only[aput,List.set]
  refine q02 1 (v:= ?_) rfl (by kernel_rfl) (fun _ _ _ h=>h) rfl ?_ ‹_› ?_;rotate_left
  ·intro wq hwq
   first|(go_simp;done)|(go_simp;with_reducible rfl)
  try simp only[aput,List.set]
  refine q02 2 (v:= ?_) rfl (by kernel_rfl) (fun _ _ _ h=>h) rfl ?_ ‹_› ?_;rotate_left
  ·intro wq hwq
   first|(go_simp;done)|(go_simp;with_reducible rfl)
  try simp only[aput,List.set]
  refine q02 3 (v:= ?_) rfl (by kernel_rfl) (fun _ _ _ h=>h) rfl ?_ ‹_› ?_;rotate_left
  ·intro wq hwq
   first|(go_simp;done)|(go_simp;with_reducible rfl)
  try simp only[aput,List.set]
  refine q02 4 (v:= ?_) rfl (by kernel_rfl) (fun _ _ _ h=>h) rfl ?_ ‹_› ?_;rotate_left
  ·intro wq hwq
   first|(go_simp;done)|(go_simp;with_reducible rfl)
  try simp only[aput,List.set]
  refine q02 5 (v:= ?_) rfl (by kernel_rfl) (fun _ _ _ h=>h) rfl ?_ ‹_› ?_;rotate_left
  ·intro wq hwq
   first|(go_simp;done)|(go_simp;with_reducible rfl)
  try simp only[aput,List.set]
  show q0F _ _ _ _ _ _ _ _ _ w3.drew;generalize w3.drew=TF at *;have Fj:=G.trans hG3 bn;refine q04 (i:=6) (by kernel_rfl) rfl ?_;intro K hK;go_simp;go_wp2_with (go_at_call 142;refine q00 (TE.out TF Fj) ?_;rintro e w4 ⟨rfl,hg4⟩);refine hK.out _ _ (Or.inl (by decide)) ?_;have hG4:=G.trans Fj hg4;clear hK K;refine q04 (i:=7) (by kernel_rfl) rfl ?_;intro K hK;go_simp;refine hK.out _ _ (Or.inl (by decide)) ?_;clear hK K;refine q0m (by kernel_rfl) ?_ _;go_wp2_with fail;go_ret;exact⟨rfl,hG4⟩
 ·have h1:(cmpI (xb:Int) (yb:Int)==0)=false:=by
   unfold cmpI;by_cases h:(xb:Int)<yb
   ·rw[if_pos h];rfl
   ·rw[if_neg h,if_neg (by omega)];rfl
  have HT1:Hid _:=h1;generalize cmpI (xb:Int) (yb:Int)=cd at *;clear hx hy hx2 hy2 fP gF hxb hyb h1 he vX;have t1:=HT1.out;go_enter Tryz.func65,Tryz.ntmps65;go_wp2_with fail;refine q00 (q0K w w (G.refl w) bx xa xb gG hbx nC.out) ?_;rintro e w1 ⟨px,ox,rfl,hg1,kx,-⟩;have Fh:Hid (DI w w1 px ox xb):=kx;clear kx;go_wp2_with fail;refine q00 (q0K w w1 hg1 b2 ya yb dF hby jW.out) ?_;rintro e w2 ⟨py,oy,rfl,hg2,ky,-⟩;have Bb:Hid (DI w w2 py oy yb):=ky;have qj:Hid (DI w w2 px ox xb):=Fh.out.G hg2;have hG2:=G.trans hg1 hg2;clear ky Fh;clear hg1 hg2;go_wp2_with fail;refine q00 (Gu.out w2 px ox py oy (qj.out.is hG2).1 (Bb.out.is hG2).1 (qj.out.is hG2).2 (Bb.out.is hG2).2) ?_;rintro e w3 ⟨rfl,hg3⟩;have hG3:=G.trans hG2 hg3;clear hg3 hG2 Gu qj Bb;have Ow:Hid (RatV w3 bx xa xb):=RatV.G nC.out hbx hG3;have Gv:Hid (RatV w3 b2 ya yb):=RatV.G jW.out hby hG3;clear nC jW;go_wp2_with fail;clear t1 HT1;apply share
  ·intro LX;refine q0L 14 (G w3) (by kernel_rfl) (by first|exact(G.refl _).drew|exact G.drew (by assumption)) ?_;intro bn;refine q02 1 (v:= ?_) rfl (by kernel_rfl) (fun _ _ _ h=>h) rfl ?_ ‹_› ?_;rotate_left
   ·intro wq hwq
    first|(go_simp;done)|(go_simp;with_reducible rfl)
   try simp only[aput,List.set]
   refine q02 2 (v:= ?_) rfl (by kernel_rfl) (fun _ _ _ h=>h) rfl ?_ ‹_› ?_;rotate_left
   ·intro wq hwq
    first|(go_simp;done)|(go_simp;with_reducible rfl)
   try simp only[aput,List.set]
   refine q02 3 (v:= ?_) rfl (by kernel_rfl) (fun _ _ _ h=>h) rfl ?_ ‹_› ?_;rotate_left
   ·intro wq hwq
    first|(go_simp;done)|(go_simp;with_reducible rfl)
   try simp only[aput,List.set]
   refine q02 4 (v:= ?_) rfl (by kernel_rfl) (fun _ _ _ h=>h) rfl ?_ ‹_› ?_;rotate_left
   ·intro wq hwq
    first|(go_simp;done)|(go_simp;with_reducible rfl)
   try simp only[aput,List.set]
   refine q02 8 (v:= ?_) rfl (by kernel_rfl) (fun _ _ _ h=>h) rfl ?_ ‹_› ?_;rotate_left
   ·intro wq hwq
    first|(go_simp;done)|(go_simp;with_reducible rfl)
   try simp only[aput,List.set]
   refine q02 9 (v:= ?_) rfl (by kernel_rfl) (fun _ _ _ h=>h) rfl ?_ ‹_› ?_;rotate_left
   ·intro wq hwq
    first|(go_simp;done)|(go_simp;with_reducible rfl)
   try simp only[aput,List.set]
   refine q02 10 (v:= ?_) rfl (by kernel_rfl) (fun _ _ _ h=>h) rfl ?_ ‹_› ?_;rotate_left
   ·intro wq hwq
    first|(go_simp;done)|(go_simp;with_reducible rfl)
   try simp only[aput,List.set]
   refine q02 11 (v:= ?_) rfl (by kernel_rfl) (fun _ _ _ h=>h) rfl ?_ ‹_› ?_;rotate_left
   ·intro wq hwq
    first|(go_simp;done)|(go_simp;with_reducible rfl)
   try simp only[aput,List.set]
   show q0F _ _ _ _ _ _ _ _ _ w3.drew;have hS5:=bn;generalize w3.drew=w5 at *;clear bn;apply share;intro bS;apply share;intro dJ;apply share;intro gH;apply share;intro jN;apply share;intro mW;apply share;intro mX;refine q0I (i:=0) (j:=5) (l:=7) (by kernel_rfl) rfl rfl rfl ?_ ?_ ?_
   ·skip
    intro K hK;go_simp;refine hK.out _ _ (Or.inr (hS5.alloc _)) ?_;clear hK K;have hn:=NI.new hS5 38;have hal:=(G.refl w5).alloc (.cells #[.bool false,.slice none 0 0] 38);have aM:=G.trans hS5 hal;generalize w5.heap.size=p1 at *;generalize w5.alloc (.cells #[.bool false,.slice none 0 0] 38)=w6 at *;have mf:=hid hn;clear hn hal;refine q0d (i:=5) (j:=7) (by kernel_rfl) rfl rfl ?_ ?_
    ·skip
     intro K hK;go_simp;go_wp2_with (go_at_call 51;refine q00 (q0K w3 w6 aM b2 ya yb dF (G.lt hG3 hby) Gv.out) ?_;intro e w7 hx;obtain⟨p4,o4,rfl,hg,h72,dY⟩:=hx);refine hK.out _ _ (Or.inr (G.trans aM hg)) ?_;clear hK K;have aC:=G.trans aM hg;have HD7:=hid h72;have ae:p4≠p1:=by have h1:=mf.out.1;have h2:=mf.out.2.1;omega
     have bU:=hid (mf.out.G hg);have aa:Hid (p4≠p1):=ae;clear hg h72 dY aM mf ae;refine q03 (l':=#[true,true,true,true,true,true,false,false,true,true,true,true,false,false,false,false]) (by kernel_rfl) ?_;revert aa;revert HD7;revert bU;revert aC;revert o4;revert p4;revert p1;revert w7;exact mW.out
    ·skip
     intro K hK;go_simp;refine hK.out _ _ (Or.inr (aM.alloc _)) ?_;clear hK K;have hn:=NI.new aM 38;have hal:=(G.refl w6).alloc (.cells #[.bool false,.slice none 0 0] 38);have aC:=G.trans aM hal;have bU:=hid (mf.out.G hal);have ae:w6.heap.size≠p1:=by have:=mf.out.2.1;omega
     generalize w6.heap.size=p2 at *;generalize w6.alloc (.cells #[.bool false,.slice none 0 0] 38)=w7 at *;have cB:=hid hn;have af:Hid (p1≠p2):=ae.symm;have ag:Hid (p2≠p1):=ae;clear hn hal aM mf ae;refine q03 (l':=#[true,true,true,true,true,false,false,true,true,true,true,true,false,false,false,false]) (by kernel_rfl) ?_;revert af;revert ag;revert cB;revert bU;revert aC;revert p2;revert p1;revert w7;exact jN.out
   ·skip
    intro K hK;go_simp;go_wp2_with (go_at_call 51;refine q00 (q0K w3 w5 hS5 b2 ya yb dF (G.lt hG3 hby) Gv.out) ?_;intro e w6 hx;obtain⟨p4,o4,rfl,hg,h72,dY⟩:=hx);refine hK.out _ _ (Or.inr (G.trans hS5 hg)) ?_;clear hK K;have aM:=G.trans hS5 hg;have HD6:=hid h72;clear hg h72 dY;refine q0d (i:=0) (j:=7) (by kernel_rfl) rfl rfl ?_ ?_
    ·skip
     intro K hK;go_simp;refine hK.out _ _ (Or.inr (aM.alloc _)) ?_;clear hK K;have hn:=NI.new aM 38;have hal:=(G.refl w6).alloc (.cells #[.bool false,.slice none 0 0] 38);have aC:=G.trans aM hal;have HD7:=hid (HD6.out.G hal);have aj:w6.heap.size≠p4:=by have:=(HD6.out.is aM).1;omega
     generalize w6.heap.size=p1 at *;generalize w6.alloc (.cells #[.bool false,.slice none 0 0] 38)=w7 at *;have bU:=hid hn;have aa:Hid (p4≠p1):=aj.symm;clear hn hal aM HD6 aj;refine q03 (l':=#[true,true,true,true,true,true,false,false,true,true,true,true,false,false,false,false]) (by kernel_rfl) ?_;revert aa;revert HD7;revert bU;revert aC;revert o4;revert p4;revert p1;revert w7;exact mW.out
    ·skip
     intro K hK;go_simp;refine hK.out _ _ (Or.inr (aM.alloc _)) ?_;clear hK K;have hn:=NI.new aM 38;have hal:=(G.refl w6).alloc (.cells #[.bool false,.slice none 0 0] 38);have aC:=G.trans aM hal;have HD7:=hid (HD6.out.G hal);have aj:w6.heap.size≠p4:=by have:=(HD6.out.is aM).1;omega
     generalize w6.heap.size=p2 at *;generalize w6.alloc (.cells #[.bool false,.slice none 0 0] 38)=w7 at *;have cB:=hid hn;have ah:Hid (p4≠p2):=aj.symm;clear hn hal aM HD6 aj;refine q03 (l':=#[false,true,true,true,true,true,false,true,true,true,true,true,false,false,false,false]) (by kernel_rfl) ?_;revert ah;revert cB;revert HD7;revert aC;revert p2;revert o4;revert p4;revert w7;exact mX.out
   ·skip
    intro K hK;go_simp;refine hK.out _ _ (Or.inr (hS5.alloc _)) ?_;clear hK K;have hn:=NI.new hS5 38;have hal:=(G.refl w5).alloc (.cells #[.bool false,.slice none 0 0] 38);have aM:=G.trans hS5 hal;generalize w5.heap.size=p2 at *;generalize w5.alloc (.cells #[.bool false,.slice none 0 0] 38)=w6 at *;have mg:=hid hn;clear hn hal;refine q0d (i:=0) (j:=5) (by kernel_rfl) rfl rfl ?_ ?_
    ·skip
     intro K hK;go_simp;refine hK.out _ _ (Or.inr (aM.alloc _)) ?_;clear hK K;have hn:=NI.new aM 38;have hal:=(G.refl w6).alloc (.cells #[.bool false,.slice none 0 0] 38);have aC:=G.trans aM hal;have cB:=hid (mg.out.G hal);have ax:w6.heap.size≠p2:=by have:=mg.out.2.1;omega
     generalize w6.heap.size=p1 at *;generalize w6.alloc (.cells #[.bool false,.slice none 0 0] 38)=w7 at *;have bU:=hid hn;have ag:Hid (p2≠p1):=ax.symm;have af:Hid (p1≠p2):=ax;clear hn hal aM mg ax;refine q03 (l':=#[true,true,true,true,true,false,false,true,true,true,true,true,false,false,false,false]) (by kernel_rfl) ?_;revert af;revert ag;revert cB;revert bU;revert aC;revert p2;revert p1;revert w7;exact jN.out
    ·skip
     intro K hK;go_simp;go_wp2_with (go_at_call 51;refine q00 (q0K w3 w6 aM b2 ya yb dF (G.lt hG3 hby) Gv.out) ?_;intro e w7 hx;obtain⟨p4,o4,rfl,hg,h72,dY⟩:=hx);refine hK.out _ _ (Or.inr (G.trans aM hg)) ?_;clear hK K;have aC:=G.trans aM hg;have HD7:=hid h72;have ax:p4≠p2:=by have h1:=mg.out.1;have h2:=mg.out.2.1;omega
     have cB:=hid (mg.out.G hg);have ah:Hid (p4≠p2):=ax;clear hg h72 dY aM mg ax;refine q03 (l':=#[false,true,true,true,true,true,false,true,true,true,true,true,false,false,false,false]) (by kernel_rfl) ?_;revert ah;revert cB;revert HD7;revert aC;revert p2;revert o4;revert p4;revert w7;exact mX.out
   refine Later.mk ?_;intro w7 p4 o4 p2 aC HD7 cB ah;refine q04 (i:=0) (by kernel_rfl) rfl ?_;intro K hK;go_simp;refine hK.out _ _ (Or.inr (aC.alloc _)) ?_;clear hK K;have hn:=NI.new aC 38;have hal:=(G.refl w7).alloc (.cells #[.bool false,.slice none 0 0] 38);have aG:=G.trans aC hal;have aW:=hid (HD7.out.G hal);have eG:=hid (cB.out.G hal);have aj:w7.heap.size≠p4:=by have:=(HD7.out.is aC).1;omega
   have ax:w7.heap.size≠p2:=by have:=cB.out.2.1;omega
   generalize w7.heap.size=p1 at *;generalize w7.alloc (.cells #[.bool false,.slice none 0 0] 38)=w8 at *;have bg:=hid hn;have aa:Hid (p4≠p1):=aj.symm;have ag:Hid (p2≠p1):=ax.symm;have af:Hid (p1≠p2):=ax;clear hn hal aC HD7 cB aj ax;refine q03 (l':=#[true,true,true,true,true,true,false,true,true,true,true,true,false,false,false,false]) (by kernel_rfl) ?_;revert ah;revert af;revert ag;revert aa;revert eG;revert aW;revert bg;revert aG;revert p2;revert o4;revert p4;revert p1;revert w8;exact gH.out;refine Later.mk ?_;intro w7 p1 p4 o4 aC bU HD7 aa;refine q0d (i:=6) (j:=7) (by kernel_rfl) rfl rfl ?_ ?_
   ·skip
    intro K hK;go_simp;have dK:Hid _:=q1p w7 p1 0 bx 0 p4 o4 0 xa yb KB (by omega) iL.out iM.out bU.out.2.1 (G.lt (G.trans hG3 aC) hbx) (HD7.out.is aC).1 bU.out.2.2 (IntIs.G HX0.out hbx (G.trans hG3 aC)) (HD7.out.is aC).2;go_wp2_with (go_at_call 50;refine q00 dK.out ?_;intro e w8 hx;obtain⟨rfl,aG,hl,-,hkp⟩:=SetTo.step aC bU.out hx);have bg:=hid hl;have aW:=hid (DI.keep HD7.out (hkp _ _ aa.out));refine hK.out _ _ (Or.inr aG) ?_;clear hK K hx hl hkp dK aC bU HD7;refine q0d (i:=7) (j:=12) (by kernel_rfl) rfl rfl ?_ ?_
    ·skip
     intro K hK;go_simp;refine hK.out _ _ (Or.inr (aG.alloc _)) ?_;clear hK K;have hn:=NI.new aG 38;have hal:=(G.refl w8).alloc (.cells #[.bool false,.slice none 0 0] 38);have aO:=G.trans aG hal;have bX:=hid (bg.out.G hal);have aZ:=hid (aW.out.G hal);have ae:w8.heap.size≠p1:=by have:=bg.out.2.1;omega
     have aj:w8.heap.size≠p4:=by have:=(aW.out.is aG).1;omega
     generalize w8.heap.size=p2 at *;generalize w8.alloc (.cells #[.bool false,.slice none 0 0] 38)=w9 at *;have iE:=hid hn;have af:Hid (p1≠p2):=ae.symm;have ag:Hid (p2≠p1):=ae;have ah:Hid (p4≠p2):=aj.symm;clear hn hal aG bg aW ae aj;refine q03 (l':=#[true,true,true,true,true,true,true,true,true,true,true,true,false,false,false,false]) (by kernel_rfl) ?_;revert ah;revert af;revert ag;revert aa;revert iE;revert aZ;revert bX;revert aO;revert p2;revert o4;revert p4;revert p1;revert w9;exact dJ.out
    ·skip
     intro K hK;go_simp;go_wp2_with (go_at_call 51;refine q00 (q0K w3 w8 aG bx xa xb gG (G.lt hG3 hbx) Ow.out) ?_;intro e w9 hx;obtain⟨p3,o3,rfl,hg,h72,dY⟩:=hx);refine hK.out _ _ (Or.inr (G.trans aG hg)) ?_;clear hK K;have aO:=G.trans aG hg;have p8:=hid h72;have ae:p3≠p1:=by have h1:=bg.out.1;have h2:=bg.out.2.1;omega
     have bX:=hid (bg.out.G hg);have aZ:=hid (aW.out.G hg);have aH:Hid (p3≠p1):=ae;clear hg h72 dY aG bg aW ae;refine q04 (i:=7) (by kernel_rfl) rfl ?_;intro K hK;go_simp;refine hK.out _ _ (Or.inr (aO.alloc _)) ?_;clear hK K;have hn:=NI.new aO 38;have hal:=(G.refl w9).alloc (.cells #[.bool false,.slice none 0 0] 38);have aF:=G.trans aO hal;have aU:=hid (bX.out.G hal);have aS:=hid (aZ.out.G hal);have aX:=hid (p8.out.G hal);have ae:w9.heap.size≠p1:=by have:=bX.out.2.1;omega
     have aj:w9.heap.size≠p4:=by have:=(aZ.out.is aO).1;omega
     have bJ:w9.heap.size≠p3:=by have:=(p8.out.is aO).1;omega
     generalize w9.heap.size=p2 at *;generalize w9.alloc (.cells #[.bool false,.slice none 0 0] 38)=aR at *;have aY:=hid hn;have af:Hid (p1≠p2):=ae.symm;have ag:Hid (p2≠p1):=ae;have ah:Hid (p4≠p2):=aj.symm;have aI:Hid (p3≠p2):=bJ.symm;clear hn hal aO bX aZ p8 ae aj bJ;refine q03 (l':=#[true,true,true,true,true,true,true,true,true,true,true,true,true,false,false,false]) (by kernel_rfl) ?_;revert aI;revert ah;revert af;revert aH;revert ag;revert aa;revert aX;revert aY;revert aS;revert aU;revert aF;revert o3;revert p3;revert p2;revert o4;revert p4;revert p1;revert aR;exact bS.out
   ·skip
    intro K hK;go_simp;refine hK.out _ _ (Or.inr (aC.alloc _)) ?_;clear hK K;have hn:=NI.new aC 38;have hal:=(G.refl w7).alloc (.cells #[.bool false,.slice none 0 0] 38);have aG:=G.trans aC hal;have bg:=hid (bU.out.G hal);have aW:=hid (HD7.out.G hal);have ae:w7.heap.size≠p1:=by have:=bU.out.2.1;omega
    have aj:w7.heap.size≠p4:=by have:=(HD7.out.is aC).1;omega
    generalize w7.heap.size=p2 at *;generalize w7.alloc (.cells #[.bool false,.slice none 0 0] 38)=w8 at *;have eG:=hid hn;have af:Hid (p1≠p2):=ae.symm;have ag:Hid (p2≠p1):=ae;have ah:Hid (p4≠p2):=aj.symm;clear hn hal aC bU HD7 ae aj;refine q03 (l':=#[true,true,true,true,true,true,false,true,true,true,true,true,false,false,false,false]) (by kernel_rfl) ?_;revert ah;revert af;revert ag;revert aa;revert eG;revert aW;revert bg;revert aG;revert p2;revert o4;revert p4;revert p1;revert w8;exact gH.out
   refine Later.mk ?_;intro w7 p1 p2 aC bU cB ag af;refine q04 (i:=5) (by kernel_rfl) rfl ?_;intro K hK;go_simp;go_wp2_with (go_at_call 51;refine q00 (q0K w3 w7 aC b2 ya yb dF (G.lt hG3 hby) Gv.out) ?_;intro e w8 hx;obtain⟨p4,o4,rfl,hg,h72,dY⟩:=hx);refine hK.out _ _ (Or.inr (G.trans aC hg)) ?_;clear hK K;have aG:=G.trans aC hg;have aW:=hid h72;have ae:p4≠p1:=by have h1:=bU.out.1;have h2:=bU.out.2.1;omega
   have ax:p4≠p2:=by have h1:=cB.out.1;have h2:=cB.out.2.1;omega
   have bg:=hid (bU.out.G hg);have eG:=hid (cB.out.G hg);have aa:Hid (p4≠p1):=ae;have ah:Hid (p4≠p2):=ax;clear hg h72 dY aC bU cB ae ax;refine q03 (l':=#[true,true,true,true,true,true,false,true,true,true,true,true,false,false,false,false]) (by kernel_rfl) ?_;revert ah;revert af;revert ag;revert aa;revert eG;revert aW;revert bg;revert aG;revert p2;revert o4;revert p4;revert p1;revert w8;exact gH.out;refine Later.mk ?_;intro w8 p1 p4 o4 p2 aG bg aW eG aa ag af ah;refine q04 (i:=6) (by kernel_rfl) rfl ?_;intro K hK;go_simp;have dK:Hid _:=q1p w8 p1 0 bx 0 p4 o4 0 xa yb KB (by omega) iL.out iM.out bg.out.2.1 (G.lt (G.trans hG3 aG) hbx) (aW.out.is aG).1 bg.out.2.2 (IntIs.G HX0.out hbx (G.trans hG3 aG)) (aW.out.is aG).2;go_wp2_with (go_at_call 50;refine q00 dK.out ?_;intro e w9 hx;obtain⟨rfl,aO,hl,-,hkp⟩:=SetTo.step aG bg.out hx);have bX:=hid hl;have aZ:=hid (DI.keep aW.out (hkp _ _ aa.out));have iE:=hid (hkp _ _ ag.out eG.out);refine hK.out _ _ (Or.inr aO) ?_;clear hK K hx hl hkp dK aG bg aW eG;refine q03 (l':=#[true,true,true,true,true,true,true,true,true,true,true,true,false,false,false,false]) (by kernel_rfl) ?_;revert ah;revert af;revert ag;revert aa;revert iE;revert aZ;revert bX;revert aO;revert p2;revert o4;revert p4;revert p1;revert w9;exact dJ.out;refine Later.mk ?_;intro w9 p1 p4 o4 p2 aO bX aZ iE aa ag af ah;refine q04 (i:=12) (by kernel_rfl) rfl ?_;intro K hK;go_simp
   go_wp2_with (go_at_call 51;refine q00 (q0K w3 w9 aO bx xa xb gG (G.lt hG3 hbx) Ow.out) ?_;intro e aR hx;obtain⟨p3,o3,rfl,hg,h72,dY⟩:=hx);refine hK.out _ _ (Or.inr (G.trans aO hg)) ?_;clear hK K;have aF:=G.trans aO hg;have aX:=hid h72;have ae:p3≠p1:=by have h1:=bX.out.1;have h2:=bX.out.2.1;omega
   have ax:p3≠p2:=by have h1:=iE.out.1;have h2:=iE.out.2.1;omega
   have aU:=hid (bX.out.G hg);have aS:=hid (aZ.out.G hg);have aY:=hid (iE.out.G hg);have aH:Hid (p3≠p1):=ae;have aI:Hid (p3≠p2):=ax;clear hg h72 dY aO bX aZ iE ae ax;refine q03 (l':=#[true,true,true,true,true,true,true,true,true,true,true,true,true,false,false,false]) (by kernel_rfl) ?_;revert aI;revert ah;revert af;revert aH;revert ag;revert aa;revert aX;revert aY;revert aS;revert aU;revert aF;revert o3;revert p3;revert p2;revert o4;revert p4;revert p1;revert aR;exact bS.out;refine Later.mk ?_;intro aR p1 p4 o4 p2 p3 o3 aF aU aS aY aX aa ag aH af ah aI;refine q04 (i:=13) (by kernel_rfl) rfl ?_;intro K hK;go_simp;have dK:Hid _:=q1p aR p2 0 b2 0 p3 o3 0 ya xb KB (by omega) kJ.out kK.out aY.out.2.1 (G.lt (G.trans hG3 aF) hby) (aX.out.is aF).1 aY.out.2.2 (IntIs.G qK.out hby (G.trans hG3 aF)) (aX.out.is aF).2;go_wp2_with (go_at_call 50;refine q00 dK.out ?_;intro e dH hx;obtain⟨rfl,aV,hl,-,hkp⟩:=SetTo.step aF aY.out hx);have fE:=hid hl;have gI:=hid (hkp _ _ af.out aU.out);have gU:=hid (DI.keep aS.out (hkp _ _ ah.out));have fQ:=hid (DI.keep aX.out (hkp _ _ aI.out));refine hK.out _ _ (Or.inr aV) ?_;clear hK K hx hl hkp dK aF aU aS aY aX;refine q04 (i:=14) (by kernel_rfl) rfl ?_;intro K hK;go_simp;go_wp2_with (go_at_call 142;refine q00 (q4L dH p1 0 p2 0 (xa*(yb:Int)) (ya*(xb:Int)) (2*KB) (by omega) ny.out bW.out gI.out.2.1 fE.out.2.1 gI.out.2.2 fE.out.2.2) ?_;rintro e fT ⟨rfl,hg⟩);refine hK.out _ _ (Or.inl (by decide)) ?_;clear hK K;have jO:=G.trans aV hg;have iJ:=hid (gI.out.G hg)
   have lT:=hid (gU.out.G hg);have iI:=hid (fE.out.G hg);have lU:=hid (fQ.out.G hg);clear hg aV gI gU fE fQ;refine q04 (i:=15) (by kernel_rfl) rfl ?_;intro K hK;go_simp;refine hK.out _ _ (Or.inl (by decide)) ?_;clear hK K;refine q0m (by kernel_rfl) ?_ _;revert aI;revert ah;revert af;revert aH;revert ag;revert aa;revert lU;revert iI;revert lT;revert iJ;revert jO;revert o3;revert p3;revert p2;revert o4;revert p4;revert p1;revert fT;exact LX.out
  ·skip
   refine Later.mk ?_;intro fT p1 p4 o4 p2 p3 o3 jO iJ lT iI lU aa ag aH af ah aI;have hG:=G.trans hG3 jO;go_wp2_with fail;go_ret;exact⟨rfl,hG⟩
/-- Words laid over a row of our own. -/
theorem q7n {w:World} {b:Nat}:∀ {m l:List Nat} {o:Nat},Own w b l→okw m→o+m.length≤l.length→
  Own (w.setCells b o (m.map fun d=> .int .u32 (d:Nat))) b (l.take o++(m++l.drop (o+m.length))):=by
 intro m
 induction m generalizing w with
 |nil=>intro l o h _ _;simpa [World.setCells] using h
 |cons d m ih=>
  intro l o h hm hl;obtain⟨hd,hm'⟩:=okw_cons.1 hm;simp only[List.length_cons] at hl;have h1:=Own.set h o d (by omega) hd;have h2:=ih (l:=l.set o d) (o:=o+1) h1 hm' (by rw[List.length_set];omega);rw[List.map_cons];simp only[World.setCells];have e:(l.set o d).take (o+1)++(m++(l.set o d).drop (o+1+m.length))=l.take o++(d::m++l.drop (o+(m.length+1))):=by
   rw[q1n (by rw[List.length_set];omega),q0H,q0g (by omega),List.drop_set_of_lt (by omega)];simp [Nat.add_comm,Nat.add_left_comm]
  rw[List.length_cons,← e];exact h2
theorem q7d {w0:World} {b:Nat} (hb:w0.heap.size≤b):∀ (cs:List Value) (w:World) (o:Nat),G w0 w→G w0 (w.setCells b o cs)
 |[],_,_,h=>h
 |v::cs,_,o,h=>q7d hb cs _ _ (G.setCell h (p:=⟨b,o,none⟩) hb v)
theorem q7e {w:World} {b o:Nat} {l:List Nat} (h:Row w b o l):∀ j v,(l.map fun d=>Value.int .u32 (d:Nat))[j]? =some v→w.cell? ((⟨b,o,none⟩:Addr).add j)=some v:=by
 intro j u hj;rw[List.getElem?_map] at hj;obtain⟨d,hd,rfl⟩:=Option.map_eq_some_iff.1 hj;have:=h j (List.getElem?_eq_some_iff.1 hd).1;rw[List.getD_eq_getElem?_getD,hd] at this;rw[show ((⟨b,o,none⟩:Addr).add j)=⟨b,o+j,none⟩ from Addr.add_lit ..];exact this
theorem q7C (l:List Nat):∀ u∈(l.map fun d=>Value.int .u32 (d:Nat)),u.oneCell'=true:=by
 intro u hu;obtain⟨d,-,rfl⟩:=List.mem_map.1 hu;rfl
/-- 'copy' of a slice to the beginning of a row of our own that is newer than w0. -/
theorem q73 {w0 w:World} {b n:Nat} {zs l:List Nat} {va:Value} (h:Own w b zs) (hz:zs.length=n) (ha:Sl w va l) (hl:l.length≤n) (g:G w0 w) (hb:w0.heap.size≤b) (ty:TypeId):
  ∃ w',(Builtin.copy_ #[36,36] ty #[.slice (some ⟨b,0,none⟩) n n,va]).run Tryz.prog w= .ok (goInt l.length) w'∧Own w' b (l++zs.drop l.length)∧G w0 w':=by
 have hok:=ha.1;rcases Sl.cases ha with ⟨rfl,a,c,rfl⟩|⟨hne,b1,o1,c1,rfl,hc1,hb1,hr1⟩
 ·exact⟨w,run_copy_none w 36 36 ty 187 _ _ _ _ _ _ Tryz.underlying36 (by kernel_rfl) (by simp),h,g⟩
 ·have hc:=q7n (o:=0) h hok (by omega);rw[List.take_zero,List.nil_append,Nat.zero_add] at hc;have hrun:=run_copy_cells (P:=Tryz.prog) w 36 36 ty 187 b 0 n n ⟨b1,o1,none⟩ l.length c1 (l.map fun d=> .int .u32 (d:Nat)) Tryz.underlying36 (by kernel_rfl)
   (by rw[List.length_map];exact(Nat.min_eq_left hl).symm) (q7e hr1)
   (fun i hi=>by rw[List.length_map] at hi;rw[Nat.zero_add,Own.cell h (by omega)];rfl)
   (fun i hi=>by rw[List.length_map] at hi;rw[Nat.zero_add];exact Own.frozen h (by omega)) (q7C l)
  rw[List.length_map] at hrun;exact⟨_,hrun,hc,q7d hb _ _ _ g⟩
theorem q57 (n:Nat):val (List.replicate n 0)=0:=by
 induction n with
 |zero=>rfl
 |succ n ih=>rw[List.replicate_succ,val,ih]
theorem qcn (w:World) (bx ox n:Nat) (v:Value) (l:List Nat) (hn:n≤1048576) (hl:Sl w v l) (hln:l.length≤n) (hx:q5E w bx ox false v) (hbx:bx<w.heap.size):
  Calls Tryz.prog 205 #[.pointer (some ⟨bx,ox,none⟩),.int .i64 (n:Int)] w fun e w'=>∃ b cs,e= .returned (.slice (some ⟨b,0,none⟩) n n)∧G w w'∧w.heap.size≤b∧Own w' b cs∧cs.length=n∧cs=l++List.replicate (n-l.length) 0:=by
 obtain⟨c1,c2,-,-⟩:=hx;have hmk:=q1e n (by omega);have hgm:G w (w.alloc (.cells (madeCells #[.int .u32 0] n) 187)):=(G.refl _).alloc _;obtain⟨w1,hrun,hown,hG⟩:=q73 (n:=n) (va:=v) (q0C w n 187) (by simp) (hl.G hgm) hln hgm (Nat.le_refl _) 3;rw[List.drop_replicate] at hown;have HO:Hid _:=hown;have d1:=hG.cell hbx c1;have hpl:(l++List.replicate (n-l.length) 0).length=n:=by simp;omega
 have FN:Hid _:=hpl;clear hown hl hln hn hpl;generalize l++List.replicate (n-l.length) 0=cs at *;go_enter Tryz.func205,Tryz.ntmps205;go_wp2_with fail;go_ret;exact⟨w.heap.size,cs,rfl,hG,Nat.le_refl _,HO.out,FN.out,rfl⟩
theorem of_c (w:World) (b o p n:Nat) (s0:Int) (cs:List Nat) (hn:n+1≤1048576) (hb:b<w.heap.size) (hz:IntIs w b o s0) (hown:Own w p cs) (hcs:cs.length=n+1) (htop:cs.getD n 0<2^31):
  Calls Tryz.prog 206 #[.pointer (some ⟨b,o,none⟩),.slice (some ⟨p,0,none⟩) (n+1) (n+1)] w (SetTo w b o (val cs:Nat)):=by
 have HZ:Hid _:=hz;have hT:Hid _:=q0G hown hcs (by omega);have hnb:(n:Int)≤1048575:=by omega
 have hc:=Own.cell hown (i:=n) (by rw[hcs];omega);have hlt:((cs.getD n 0:Nat):Int)/2147483648=0:=by omega
 generalize val cs=V at *;generalize cs.getD n 0=z at *;clear hz hown hcs htop;go_enter Tryz.func206,Tryz.ntmps206;go_wp2_with fail;refine q00 hT.out ?_;rintro e w2 ⟨v1,rfl,hg2,hn2⟩;go_wp2_with fail;refine q00 (q0T (w0:=w) hb hg2 (q1g _ b o _ s0 _ _ (IntIs.G HZ.out hb hg2) hn2)) ?_;rintro e w3 ⟨rfl,hs3⟩;go_wp2_with fail;go_ret;exact hs3
theorem q66 {cs:List Nat} {i q s:Nat} (hok:okw cs) (hi:i=32*q+s) (hs:s≤31) (hq:q<cs.length):val cs/2^i%2=cs.getD q 0/2^s%2:=by
 have e:val cs/2^i=val (cs.drop q)/2^s:=by
  rw[q1m hok q,Nat.div_div_eq_div_mul,← Nat.pow_add,← hi]
 rw[e,q0h hq];show (cs.getD q 0+2^32*val (cs.drop (q+1)))/2^s%2=_;have h2:2^32*val (cs.drop (q+1))=2^s*(2*(2^(31-s)*val (cs.drop (q+1)))):=by
  rw[← Nat.mul_assoc 2,← Nat.pow_succ',← Nat.mul_assoc,← Nat.pow_add,show s+(31-s+1)=32 from by omega]
 rw[h2,Nat.add_mul_div_left _ _ (Nat.two_pow_pos _),Nat.add_mul_mod_self_left]
theorem q6y {cs:List Nat} {q y:Nat} (hq:q<cs.length):val (cs.set q (cs.getD q 0+y))=val cs+2^(32*q)*y:=by
 rw[q0t (l:=cs.set q (cs.getD q 0+y)) (k:=q) (by rw[List.length_set];exact hq),q0t (l:=cs) hq,q0H,q0g hq,List.drop_set_of_lt (by omega)];rw[Nat.mul_add,Nat.mul_add,Nat.mul_add];omega
theorem q5i {x s:Nat} (hx:x<2^32) (hb:x/2^s%2=0) (hs:s≤31):bits .andNot .u32 (x:Int) (2^s%4294967296)=(x:Int)∧bits .or .u32 (x:Int) (bits .and .u64 1 1%4294967296*2^s%4294967296)=((x+2^s:Nat):Int)∧x+2^s<2^32:=by
 have hp:2^s≤2^31:=Nat.pow_le_pow_right (by omega) hs;have e1:((2:Int)^s%4294967296)=((2^s:Nat):Int):=by
  rw[FT.ipow];generalize 2^s=p at *;omega
 have e2:bits .and .u64 1 1%4294967296*2^s%4294967296=((2^s:Nat):Int):=by
  rw[show bits .and .u64 1 1=1 from by decide,FT.ipow];generalize 2^s=p at *;omega
 have Hq:=Nat.div_add_mod x (2^(s+1));have hlo:x%2^(s+1)=x%2^s:=by
  rw[Nat.pow_succ,Nat.mod_mul,hb,Nat.mul_zero,Nat.add_zero]
 have hl2:x%2^s<2^s:=Nat.mod_lt _ (Nat.two_pow_pos s);have hor:x|||2^s=x+2^s:=by
  have h1:x=2^(s+1)*(x/2^(s+1))|||x%2^s:=by
   rw[nat_join (s+1) _ _ (Nat.mul_mod_right _ _) (by rw[Nat.pow_succ];omega),← hlo];exact Hq.symm
  have h2:x|||2^s=2^(s+1)*(x/2^(s+1))|||(2^s|||x%2^s):=by
   rw[Nat.or_comm (2^s),← Nat.or_assoc,← h1]
  rw[h2,nat_join s (2^s) _ (Nat.mod_self _) hl2,nat_join (s+1) _ _ (Nat.mul_mod_right _ _) (by rw[Nat.pow_succ];omega),← hlo];omega
 refine⟨?_,?_,?_⟩
 ·rw[e1,u32_andNot_nat x _ hx (by omega)]
  congr 1
  apply Nat.eq_of_testBit_eq;intro j;rw[Nat.testBit_and,show 4294967295-2^s=2^32-(2^s+1) from by omega,Nat.testBit_two_pow_sub_succ (by omega),Nat.testBit_two_pow];by_cases hj:s=j
  ·subst hj;rw[Nat.testBit_eq_decide_div_mod_eq,hb];simp
  ·by_cases h32:j<32
   ·simp [hj,h32]
   ·rw[Nat.testBit_lt_two_pow (Nat.lt_of_lt_of_le hx (Nat.pow_le_pow_right (by omega) (by omega)))];simp
 ·rw[e2,u32_or_nat x _ hx (by omega),hor]
 ·rw[← hor];exact Nat.or_lt_two_pow hx (by omega)
theorem q8L (w:World) (b bx ox i:Nat) (s0:Int) (a K:Nat) (hK:K≤500000) (hi:i≤10000000) (ha2:a<2^(32*K)) (hbit:a/2^i%2=0) (hb:b<w.heap.size) (hbx:bx<w.heap.size)
  (hz:IntIs w b 0 s0) (hx:IntIs w bx ox (a:Int)):
  Calls Tryz.prog 147 #[.pointer (some ⟨b,0,none⟩),.pointer (some ⟨bx,ox,none⟩),.int .i64 (i:Int),.int .u64 1] w (SetTo w b 0 ((a+2^i:Nat):Int)):=by
 obtain⟨nn,v,a',hat,hv,h1,h2⟩:=hx;have ha:=q0R h1;rw[Int.natAbs_natCast] at ha;subst ha;have hn:nn=false:=by
  cases nn
  ·rfl
  ·have:=h2 rfl;unfold sg at h1;simp at h1;omega
 subst hn;obtain⟨l,hl,hcl,hval⟩:=hv;rw[← hval] at ha2 hbit ⊢;have hll:=q06 hcl ha2;obtain⟨pa,ca,rfl,dL,-⟩:=q0n hl;generalize hj:l.length=j at *;obtain⟨n,hnn⟩:∃ n:Nat,n=max j (i/32+1):=⟨_,rfl⟩;have hd1:(i:Int)/32=((i/32:Nat):Int):=by omega
 have hd2:(i:Int)%32=((i%32:Nat):Int):=by omega
 have P6:IntKind.u64.wrap (i:Int)=i:=by rw[IntKind.wrap_u64];omega
 generalize hq:i/32=q at *;generalize hsn:i%32=s at *;have mq:Hid _:=qcn w bx ox (n+1) _ l (by omega) (by rw[← hj] at *;exact hl) (by omega) hat hbx;obtain⟨c1,c2,-,-⟩:=hat;have hib:(i:Int)≤10000000:=by omega
 have uj:(q:Int)≤312500:=by omega
 have hjb:(j:Int)≤500000:=by omega
 have hnb:(n:Int)≤500000:=by omega
 have MK:(q:Int)<n:=by omega
 have HI:Hid _:=And.intro hq hsn;have HB:Hid _:=hbit;have nu:Hid _:=hb;have HZ:Hid _:=hz;clear hK ha2 hll hcl hb hq hsn hbit hz h1 h2 hval;by_cases hjq:q+1≤j
 ·obtain rfl:n=j:=by omega
  have t0:(q:Int)+1≤n:=by omega
  clear hnn;go_enter Tryz.func147,Tryz.ntmps147;go_wp2_with fail;refine q00 mq.out ?_;rintro e w1 ⟨p,cs,rfl,g1,hp,hown,hlen,hcs⟩;have hc:=Own.cell hown (i:=q) (by omega);have hf:=Own.frozen hown (i:=q) (by omega);have hx32:=q05 hown.1 q;have hv0:val cs=val l:=by rw[hcs,val_append,q57,Nat.mul_zero,Nat.add_zero]
  have hgn:cs.getD n 0=0:=by
   rw[hcs,List.getD_eq_getElem?_getD,List.getElem?_append_right (by omega),List.getElem?_replicate];split<;>rfl
  have hbw:=q66 hown.1 (i:=i) (q:=q) (s:=s) (by have:=HI.out;omega) (by have:=HI.out;omega) (by omega);rw[hv0,HB.out] at hbw;have hset:val (cs.set q (cs.getD q 0+2^s))=val l+2^i:=by rw[q6y (by omega),hv0,show i=32*q+s from by have:=HI.out;omega,Nat.pow_add]
  generalize uT:cs.getD q 0=x at *;obtain⟨P7,P8,Hr⟩:=q5i (s:=s) hx32 hbw.symm (by have:=HI.out;omega);have HOW:Hid _:=Own.set (Own.set hown q x (by omega) hx32) q (x+2^s) (by rw[List.length_set];omega) Hr;have HF:Hid ((((cs.set q x).set q (x+2^s)).getD n 0<2^31∧((cs.set q x).set q (x+2^s)).length=n+1)∧val ((cs.set q x).set q (x+2^s))=val l+2^i):=by
   rw[List.set_set];refine⟨⟨?_,by rw[List.length_set];exact hlen⟩,hset⟩;rw[List.getD_eq_getElem?_getD,List.getElem?_set_ne (by omega),← List.getD_eq_getElem?_getD,hgn];omega
  have hxi:(x:Int)≤4294967295:=by omega
  have hG2:G w _:=G.setCell (G.setCell g1 (p:=⟨p,q,none⟩) hp (.int .u32 (x:Int))) (p:=⟨p,q,none⟩) hp (.int .u32 ((x+2^s:Nat):Int));generalize (cs.set q x).set q (x+2^s)=ds at *;clear hown hcs hset hgn hv0 hbw;go_wp2_with fail;refine q00 (q0T (w0:=w) nu.out hG2 (of_c _ b 0 p n s0 ds (by omega) (G.lt hG2 nu.out) (IntIs.G HZ.out nu.out hG2) HOW.out HF.out.1.2 HF.out.1.1)) ?_;rintro e w3 ⟨rfl,hs3⟩;rw[HF.out.2] at hs3;go_wp2_with fail;go_ret;exact hs3
 ·have hnq:n=q+1:=by omega
  have P9:Hid _:=hnq;have Pb:j<n:=by omega
  clear hnq hjq;have t1:(q:Int)+1=n:=by have:=P9.out;omega
  have t0:(j:Int)<n:=by omega
  clear hnn;go_enter Tryz.func147,Tryz.ntmps147;go_wp2_with fail;refine q00 mq.out ?_;rintro e w1 ⟨p,cs,rfl,g1,hp,hown,hlen,hcs⟩;have hc:=Own.cell hown (i:=q) (by omega);have hf:=Own.frozen hown (i:=q) (by omega);have hx32:=q05 hown.1 q;have hv0:val cs=val l:=by rw[hcs,val_append,q57,Nat.mul_zero,Nat.add_zero]
  have hgn:cs.getD n 0=0:=by
   rw[hcs,List.getD_eq_getElem?_getD,List.getElem?_append_right (by omega),List.getElem?_replicate];split<;>rfl
  have hbw:=q66 hown.1 (i:=i) (q:=q) (s:=s) (by have:=HI.out;omega) (by have:=HI.out;omega) (by omega);rw[hv0,HB.out] at hbw;have hset:val (cs.set q (cs.getD q 0+2^s))=val l+2^i:=by rw[q6y (by omega),hv0,show i=32*q+s from by have:=HI.out;omega,Nat.pow_add]
  generalize uT:cs.getD q 0=x at *;obtain⟨P7,P8,Hr⟩:=q5i (s:=s) hx32 hbw.symm (by have:=HI.out;omega);have HOW:Hid _:=Own.set (Own.set hown q x (by omega) hx32) q (x+2^s) (by rw[List.length_set];omega) Hr;have HF:Hid ((((cs.set q x).set q (x+2^s)).getD n 0<2^31∧((cs.set q x).set q (x+2^s)).length=n+1)∧val ((cs.set q x).set q (x+2^s))=val l+2^i):=by
   rw[List.set_set];refine⟨⟨?_,by rw[List.length_set];exact hlen⟩,hset⟩;rw[List.getD_eq_getElem?_getD,List.getElem?_set_ne (by omega),← List.getD_eq_getElem?_getD,hgn];omega
  have hxi:(x:Int)≤4294967295:=by omega
  have hG2:G w _:=G.setCell (G.setCell g1 (p:=⟨p,q,none⟩) hp (.int .u32 (x:Int))) (p:=⟨p,q,none⟩) hp (.int .u32 ((x+2^s:Nat):Int));generalize (cs.set q x).set q (x+2^s)=ds at *;clear hown hcs hset hgn hv0 hbw;go_wp2_with fail;refine q00 (q0T (w0:=w) nu.out hG2 (of_c _ b 0 p n s0 ds (by omega) (G.lt hG2 nu.out) (IntIs.G HZ.out nu.out hG2) HOW.out HF.out.1.2 HF.out.1.1)) ?_;rintro e w3 ⟨rfl,hs3⟩;rw[HF.out.2] at hs3;go_wp2_with fail;go_ret;exact hs3
end Go.Proofs.YtbfjihniphldaaaGreatDoor
