/- What is proved here: contracts of the reference's big numbers: Quo, Sqrt of Int, over this seat's translation. -/
import Derived.Test.YtbfjihniphldaaaGreatDoorC14
import Derived.Test.YtbfjihniphldaaaGreatDoorC32
import Derived.Test.YtbfjihniphldaaaGreatDoorC27
namespace Go.Proofs.YtbfjihniphldaaaGreatDoor
open Go.ChangeShapes Go.WideShapes Go.ChangeAt Go.RowKit
open BN
theorem qaV (w:World) (b o bx ox b2 oy:Nat) (s0 sx sy:Int) (K:Nat) (hK:K≤300000) (hx2:sx.natAbs<2^(32*K)) (hy2:sy.natAbs<2^(32*K)) (hy0:sy≠0) (hb:b<w.heap.size) (hbx:bx<w.heap.size) (hby:b2<w.heap.size)
  (hz:IntIs w b o s0) (hx:IntIs w bx ox sx) (hy:IntIs w b2 oy sy):
  Calls Tryz.prog 70 #[.pointer (some ⟨b,o,none⟩),.pointer (some ⟨bx,ox,none⟩),.pointer (some ⟨b2,oy,none⟩)] w (SetTo w b o (Int.tdiv sx sy)):=by
 have ga:G w (w.alloc (.cells #[.bool false,.slice none 0 0] 38)):=(G.refl _).alloc _;have hbp:b≠w.heap.size:=by omega
 have HQ:Hid _:=q6o (w.alloc (.cells #[.bool false,.slice none 0 0] 38)) b o bx ox b2 oy w.heap.size 0 s0 0 sx sy K hK hx2 hy2 hy0 (G.lt ga hb) (by simp) (G.lt ga hbx) (G.lt ga hby) (IntIs.G hz hb ga) (q4k w _) (Or.inl (by omega)) (IntIs.G hx hbx ga) (IntIs.G hy hby ga);generalize Int.tdiv sx sy=q at *;generalize Int.tmod sx sy=r at *;have HG:Hid _:=ga;have HZ:Hid _:=hz;clear hz hx hy hx2 hy2 hy0 ga;go_enter Tryz.func70,Tryz.ntmps70;go_wp2_with fail;refine q00 HQ.out ?_;rintro e w3 ⟨rfl,w2,e1,e2,h1,h2⟩;go_wp2_with fail;go_ret;have h2':=h2;have kp:=SetTo.keep (IntIs.G HZ.out hb HG.out) h1 (q4k w 38) (by simp) (Or.inl (by omega));have k1:=SetTo.after hb HG.out h1;obtain⟨-,k2,⟨k3,k4⟩,k5⟩:=k1;obtain⟨-,g2,-,-⟩:=h2;have hbb:w3.heap[b]? =w2.heap[b]? :=g2.block b (Nat.lt_of_lt_of_le hb k2.size) (fun e=>hbp (Option.some.inj e));refine⟨rfl,⟨g2.os.trans k2.os,g2.tape.trans k2.tape,g2.output.trans k2.output,Nat.le_trans k2.size g2.size,fun k hk hn=> ?_⟩,⟨fun i hi hi2=>(World.cell?_of_block hbb).trans (k3 i hi hi2),fun i=>(World.frozen?_of_block hbb).trans (k4 i)⟩,?_⟩
 ·exact(g2.block k (Nat.lt_of_lt_of_le hk k2.size) (fun e=>by have:=Option.some.inj e;omega)).trans (k2.block k hk hn)
 ·exact SetTo.keep kp h2' k5 (Nat.lt_of_lt_of_le hb k2.size) (Or.inl hbp)
theorem q7V {a r s:Nat} (h1:r*r≤a) (h2:a<(r+1)*(r+1)) (h3:s*s≤a) (h4:a<(s+1)*(s+1)):r=s:=by
 have step:∀ {x y:Nat},x*x≤a→a<(y+1)*(y+1)→x≤y:=fun {x y} h k=>by
  rcases Nat.lt_or_ge y x with h'|h'
  ·have:=Nat.mul_le_mul (Nat.succ_le_of_lt h') (Nat.succ_le_of_lt h');simp only[Nat.succ_eq_add_one] at this;omega
  ·exact h'
 exact Nat.le_antisymm (step h1 h4) (step h3 h2)
theorem qao {a r p:Nat} (h2:a<(r+(p+p))*(r+(p+p))):a<(r+p+p)*(r+p+p):=by rw[Nat.add_assoc];exact h2
theorem q8Z {r k:Nat} (h:r%2^(k+1)=0):r%2^k=0∧(r+2^k)%2^k=0∧r/2^k%2=0:=by
 obtain⟨c,hc⟩:=Nat.dvd_of_mod_eq_zero h;rw[Nat.pow_succ,Nat.mul_assoc] at hc;subst hc;refine⟨Nat.mul_mod_right _ _,by rw[Nat.add_mod_right,Nat.mul_mod_right],?_⟩;rw[Nat.mul_div_cancel_left _ (Nat.two_pow_pos _),Nat.mul_mod_right]
theorem qax (w:World) (b o bx ox:Nat) (s0:Int) (a s K:Nat) (hK:K≤100000) (hK1:1≤K) (ha2:a<2^(32*K)) (h1:s*s≤a) (h2:a<(s+1)*(s+1)) (hb:b<w.heap.size) (hbx:bx<w.heap.size)
  (hz:IntIs w b o s0) (hx:IntIs w bx ox (a:Int)):
  Calls Tryz.prog 72 #[.pointer (some ⟨b,o,none⟩),.pointer (some ⟨bx,ox,none⟩)] w (SetTo w b o (s:Int)):=by
 have hx':=hx;obtain⟨nn,v,a',⟨c1,c2,-,-⟩,hv,k1,k2⟩:=hx';have ha:=q0R k1;rw[Int.natAbs_natCast] at ha;subst ha;have hn:nn=false:=by
  cases nn
  ·rfl
  ·have:=k2 rfl;unfold sg at k1;simp at k1;omega
 subst hn;have hG1:=(G.refl w).alloc (.cells #[.bool false,.slice none 0 0] 38);have hN1:=NI.new (G.refl w) 38;have d2:=hG1.cell hbx c2;have hbl:blen a'≤32*K:=blen_le_iff.2 ha2;have ME:Hid _:=q45 (w.alloc (.cells #[.bool false,.slice none 0 0] 38)) v a' K (by omega) (hv.G hG1) ha2;have hbb:a'<2^blen a':=blen_le_iff.1 (Nat.le_refl _);have HS:Hid _:=And.intro h1 h2;have HX:Hid (IntIs w bx ox (a':Int)):=hx;have HZ:Hid (IntIs w b o s0):=hz;have HA:Hid _:=ha2;have oH:Hid _:=hbx;have nu:Hid _:=hb;generalize hL:blen a'=L at *;have hst:a'<(0+2^((L+1)/2+1))*(0+2^((L+1)/2+1)):=by
  rw[Nat.zero_add,← Nat.pow_add];exact Nat.lt_of_lt_of_le hbb (Nat.pow_le_pow_right (by omega) (by omega))
 have HST:Hid _:=hst;have hh:((L:Int)+1)/2=(((L+1)/2:Nat):Int):=by omega
 have FK:((L+1)/2:Nat)≤16*K+1:=by omega
 generalize (L+1)/2=M at *;have U3:(L:Int)≤3200000:=by omega
 have MF:(M:Int)≤3200000:=by omega
 clear hst hbb h1 h2 k1 k2 hx hz ha2 hb hbx hL hbl hv;have ny:Hid (NI w (w.alloc (.cells #[.bool false,.slice none 0 0] 38)) w.heap.size 0):=hN1;clear hN1;go_enter Tryz.func72,Tryz.ntmps72;go_wp2_with fail;refine q00 ME.out ?_;rintro e w2 ⟨rfl,g2⟩;have hG2:G w w2:=G.trans hG1 g2;have bW:Hid (NI w w2 w.heap.size 0):=ny.out.G g2;generalize w.heap.size=p0 at bW ⊢;clear ny ME d2 hG1 g2;go_wp2_with fail
 go_loopw [5,6] (fun vr vi wr=>∃ k p r:Nat,k≤M+1∧vi= .int .i64 ((k:Int)-1)∧vr= .pointer (some ⟨p,0,none⟩)∧NI w wr p (r:Int)∧r*r≤a'∧a'<(r+2^k)*(r+2^k)∧r%2^k=0∧G w wr) (fun _ vi _=>(intOf vi+1).toNat)
 case atStart=>exact⟨M+1,p0,0,Nat.le_refl _,by go_num,rfl,bW.out,Nat.zero_le _,HST.out,Nat.zero_mod _,hG2⟩
 case round=>
  obtain⟨k,p,r,hk,rfl,rfl,hnr,hr1,hr2,hr3,hG⟩:=hrel;have wu:Hid (NI w wr p (r:Int)):=hnr;have HR1:Hid _:=And.intro hr1 (And.intro hr2 hr3);clear hnr hr1 hr2 hr3 hG2 bW hh;cases k with
  |zero=>
   obtain rfl:r=s:=q7V HR1.out.1 HR1.out.2.1 HS.out.1 HS.out.2;go_wp2_with fail;refine q00 (q0T (w0:=w) nu.out hG (q5j _ b o p 0 s0 r K (by omega) (by rw[Int.natAbs_natCast];exact Nat.lt_of_le_of_lt (Nat.le_trans (Nat.le_mul_self r) HR1.out.1) HA.out) (G.lt hG nu.out) wu.out.2.1 (IntIs.G HZ.out nu.out hG) wu.out.2.2)) ?_;rintro e w3 ⟨rfl,hs3⟩;go_wp2_with fail;go_ret;exact hs3
  |succ k=>
   rw[show (((k+1:Nat):Int)-1)=(k:Int) from by omega] at *;obtain⟨m1,m2,m3⟩:=q8Z HR1.out.2.2;have hp2:2^k≤2^(16*K+1):=Nat.pow_le_pow_right (by omega) (by omega);have hp3:2^(32*(K+1))=2^(32*K)*4294967296:=by rw[Nat.mul_add,Nat.pow_add]
   have mo:2^(16*K+1)≤2^(32*K):=Nat.pow_le_pow_right (by omega) (by omega);have hrb:r<2^(32*K):=Nat.lt_of_le_of_lt (Nat.le_trans (Nat.le_mul_self r) HR1.out.1) HA.out;have htb:r+2^k<2^(32*(K+1)):=by omega
   have uq:(r+2^k)*(r+2^k)<2^(32*(2*K+2)):=by
    rw[show 32*(2*K+2)=32*(K+1)+32*(K+1) from by omega,Nat.pow_add];exact Nat.mul_lt_mul'' htb htb
   have hab:a'<2^(32*(2*K+2)):=Nat.lt_of_lt_of_le HA.out (Nat.pow_le_pow_right (by omega) (by omega));have hstep:a'<(r+2^k+2^k)*(r+2^k+2^k):=qao (by rw[← Nat.two_mul,← Nat.pow_succ'];exact HR1.out.2.1);have HB:Hid _:=And.intro hrb (And.intro htb (And.intro uq hab));have HM:Hid _:=And.intro m3 (And.intro hstep (And.intro m1 m2));have hkb:(k:Int)≤3200000:=by omega
   clear m1 m2 m3 hp2 hp3 mo hrb htb uq hab hstep;go_wp2_with fail;have ht0:=NI.new hG 38;have ha1:=(G.refl wr).alloc (.cells #[.bool false,.slice none 0 0] 38);have hG1:=G.trans hG ha1;have hr1:=wu.out.G ha1;have htr:p≠wr.heap.size:=by have:=wu.out.2.1;omega
   generalize wr.heap.size=pt at *;generalize wr.alloc (.cells #[.bool false,.slice none 0 0] 38)=w1 at *;refine q00 (q8L w1 pt p 0 k 0 r K (by omega) (by omega) HB.out.1 HM.out.1 ht0.2.1 hr1.2.1 ht0.2.2 hr1.2.2) ?_;intro e w3 hs;obtain⟨rfl,hG3,nD,-,hk3⟩:=SetTo.step hG1 ht0 hs;have MG:=hk3 p _ htr hr1;have HT3:Hid (NI w w3 pt ((r+2^k:Nat):Int)):=nD;have HR3:Hid (NI w w3 p (r:Int)):=MG;clear hs hk3 nD MG ht0 hr1 ha1 hG1 htr wu;go_wp2_with fail;have hm0:=NI.new hG3 38;have FL:=(G.refl w3).alloc (.cells #[.bool false,.slice none 0 0] 38);have hG4:=G.trans hG3 FL;have AB:=HT3.out.G FL;have MH:=HR3.out.G FL;have Cf:pt≠w3.heap.size:=by have:=HT3.out.2.1;omega
   have hr4:p≠w3.heap.size:=by have:=HR3.out.2.1;omega
   generalize w3.heap.size=pm at *;generalize w3.alloc (.cells #[.bool false,.slice none 0 0] 38)=w4 at *;refine q00 (q1p w4 pm 0 pt 0 pt 0 0 _ _ (K+1) (by omega) (by rw[Int.natAbs_natCast];exact HB.out.2.1) (by rw[Int.natAbs_natCast];exact HB.out.2.1) hm0.2.1 AB.2.1 AB.2.1 hm0.2.2 AB.2.2 AB.2.2) ?_;intro e w5 hs;obtain⟨rfl,bV,FM,-,hk5⟩:=SetTo.step hG4 hm0 hs;have MI:Hid (NI w w5 pt ((r+2^k:Nat):Int)):=hk5 pt _ Cf AB;have MJ:Hid (NI w w5 p (r:Int)):=hk5 p _ hr4 MH;rw[show ((r+2^k:Nat):Int)*((r+2^k:Nat):Int)=(((r+2^k)*(r+2^k):Nat):Int) from by push_cast;rfl] at FM;have bI:Hid _:=q4L w5 pm 0 bx ox _ _ (2*K+2) (by omega) (by rw[Int.natAbs_natCast];exact HB.out.2.2.1) (by rw[Int.natAbs_natCast];exact HB.out.2.2.2) FM.2.1 (G.lt bV oH.out) FM.2.2 (IntIs.G HX.out oH.out bV);clear hs hk5 FM hm0 FL hG4 AB MH Cf hr4 HT3 HR3 hG3 hG;have hcv:cmpI (((r+2^k)*(r+2^k):Nat):Int) (a':Int)≤0↔(r+2^k)*(r+2^k)≤a':=by
    unfold cmpI;split
    ·constructor<;>intro _<;>omega
    ·split
     ·constructor<;>intro _<;>omega
     ·constructor<;>intro _<;>omega
   generalize cmpI (((r+2^k)*(r+2^k):Nat):Int) (a':Int)=cv at *;have uu:Hid _:=hcv;clear hcv;go_wp2_with fail;refine q00 bI.out ?_;rintro e w6 ⟨rfl,g6⟩;have pJ:=G.trans bV g6;have OZ:Hid (NI w w6 pt ((r+2^k:Nat):Int)):=MI.out.G g6;have P5:Hid (NI w w6 p (r:Int)):=MJ.out.G g6;clear bI MI MJ bV g6;by_cases hc:cv≤0
   ·go_wp2_with fail
    go_roundw
    case rel=>exact⟨k,pt,r+2^k,by omega,by go_num,rfl,OZ.out,uu.out.1 hc,HM.out.2.1,HM.out.2.2.2,pJ⟩
    case measure=>simp only[intOf];omega
   ·go_wp2_with fail
    go_roundw
    case rel=>exact⟨k,p,r,by omega,by go_num,rfl,P5.out,HR1.out.1,Nat.lt_of_not_le (fun h=>by have:=uu.out.2 h;omega),HM.out.2.2.1,pJ⟩
    case measure=>simp only[intOf];omega
end Go.Proofs.YtbfjihniphldaaaGreatDoor
