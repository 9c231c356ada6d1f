/- What is proved here: contracts of the reference's big numbers: sum of signed numbers, over this seat's translation.
What is proved here: contracts of the reference's big numbers: the methods of Int that write, over this seat's translation.
What is proved here: contracts of the reference's big numbers: SetUint64, Sign, twos, over this seat's translation.
What is proved here: what an Int in memory is, and the methods of Int that set it, over this seat's translation. -/
import Derived.Test.YtbfjihniphldaaaGreatDoorC14
import Derived.Test.YtbfjihniphldaaaGreatDoorC8
namespace Go.Proofs.YtbfjihniphldaaaGreatDoor
open Go.ChangeShapes Go.WideShapes Go.ChangeAt Go.RowKit
open BN
/-- A sign and a size. -/
def sg (n:Bool) (a:Nat):Int:=if n then -(a:Int) else a
def q9L (w:World) (s:Int) (e:Ending) (w':World):Prop:=∃ n v a,e= .returned (.tuple #[.bool n,v])∧G w w'∧Num w' v a∧sg n a=s
theorem qcf (w:World) (xn yn:Bool) (va vb:Value) (a b K:Nat) (hK:K≤1000000) (ha:Num w va a) (hb:Num w vb b) (ha2:a<2^(32*K)) (hb2:b<2^(32*K)):
  Calls Tryz.prog 125 #[.bool xn,va,.bool yn,vb] w (q9L w (sg xn a+sg yn b)):=by
 have HAdd:Hid _:=qcm w va vb a b K (by omega) ha hb ha2 hb2;have jf:Hid _:=q2H w va vb a b K (by omega) ha hb ha2 hb2;have iZ:Hid (∀ w1,G w w1→b≤a→_):=fun w1 g h=>qc8 w1 va vb a b K (by omega) (ha.G g) (hb.G g) ha2 h;have HS2:Hid (∀ w1,G w w1→a≤b→_):=fun w1 g h=>qc8 w1 vb va b a K (by omega) (hb.G g) (ha.G g) hb2 h;by_cases hxy:xn=yn
 ·subst hxy;have t0:(xn==xn)=true:=by simp
  have hs:sg xn (a+b)=sg xn a+sg xn b:=by unfold sg;split<;>push_cast<;>omega
  go_enter Tryz.func125,Tryz.ntmps125;go_wp2_with fail;refine q00 HAdd.out ?_;rintro e w1 ⟨v1,rfl,hb1,hn1⟩;go_wp2_with fail
  go_ret2
  exact⟨xn,v1,a+b,rfl,hb1,hn1,hs⟩
 ·have t0:(xn==yn)=false:=by simp [hxy]
  obtain rfl:yn= !xn:=by cases xn<;>cases yn<;>simp_all
  have hs1:b≤a→sg xn (a-b)=sg xn a+sg (!xn) b:=by intro h;unfold sg;cases xn<;>simp <;>omega
  have hs2:a≤b→sg (!xn) (b-a)=sg xn a+sg (!xn) b:=by intro h;unfold sg;cases xn<;>simp <;>omega
  by_cases hab:b≤a
  ·have hc:0≤cmpV a b:=by unfold cmpV;rw[if_neg (by omega)];split<;>omega
   generalize cmpV a b=cv at *;go_enter Tryz.func125,Tryz.ntmps125;go_wp2_with fail;refine q00 jf.out ?_;rintro e w1 ⟨rfl,hb1⟩;go_wp2_with fail;refine q00 (iZ.out w1 hb1 hab) ?_;rintro e w2 ⟨v1,rfl,hb2',hn1⟩;go_wp2_with fail
   go_ret2
   exact⟨xn,v1,a-b,rfl,G.trans hb1 hb2',hn1,hs1 hab⟩
  ·have hc:¬ 0≤cmpV a b:=by unfold cmpV;rw[if_pos (by omega)];omega
   generalize cmpV a b=cv at *;go_enter Tryz.func125,Tryz.ntmps125;go_wp2_with fail;refine q00 jf.out ?_;rintro e w1 ⟨rfl,hb1⟩;go_wp2_with fail;refine q00 (HS2.out w1 hb1 (by omega)) ?_;rintro e w2 ⟨v1,rfl,hb2',hn1⟩;go_wp2_with fail
   go_ret2
   exact⟨!xn,v1,b-a,rfl,G.trans hb1 hb2',hn1,hs2 (by omega)⟩
/-- At p lies an Int that may be written. -/
def q5E (w:World) (b o:Nat) (n:Bool) (v:Value):Prop:=
 w.cell? ⟨b,o,none⟩=some (.bool n)∧w.cell? ⟨b,o+1,none⟩=some v∧w.frozen? ⟨b,o,none⟩=false∧w.frozen? ⟨b,o+1,none⟩=false
theorem qbr (w:World) (b o:Nat) (n0 neg:Bool) (v0 va:Value) (l:List Nat) (hz:q5E w b o n0 v0) (ha:Sl w va l):
  Calls Tryz.prog 117 #[.pointer (some ⟨b,o,none⟩),.bool neg,va] w fun e w'=>
   e= .returned (.pointer (some ⟨b,o,none⟩))∧w'=(w.setCell ⟨b,o+1,none⟩ va).setCell ⟨b,o,none⟩ (.bool (neg&& !l.isEmpty)):=by
 obtain⟨c1,c2,f1,f2⟩:=hz;obtain⟨pa,ca,rfl,dL,hra⟩:=q0n ha;have hl:decide (0<l.length)= !l.isEmpty:=by cases l<;>simp
 have HL:Hid _:=hl;clear hra ha hl;cases neg
 ·go_enter Tryz.func117,Tryz.ntmps117;go_wp2_with fail;go_ret;exact⟨rfl,rfl⟩
 ·rw[Bool.true_and,← HL.out];go_enter Tryz.func117,Tryz.ntmps117;go_wp2_with fail;go_ret;exact⟨rfl,rfl⟩
/-- Worlds that differ from w, below its size, in block b alone. -/
def GX (b:Nat) (w w':World):Prop:=w.grownBy w' (some b)
theorem GX.of {b:Nat} {w w':World} (h:G w w'):GX b w w':=⟨h.os,h.tape,h.output,h.size,fun k hk _=>h.block k hk⟩
theorem GX.set {b o:Nat} {w w':World} (h:GX b w w') (v:Value):GX b w (w'.setCell ⟨b,o,none⟩ v):=by
 refine⟨h.os,h.tape,h.output,by simpa [World.setCell] using h.size,fun k hk hn=> ?_⟩;have hne:k≠b:=fun e=>hn (by rw[e]);rw[← h.block k hk hn];exact Below.heap_setCell _ _ _ _ hne
theorem GX.trans {b:Nat} {w w' w'':World} (h:GX b w w') (k:GX b w' w''):GX b w w'':=
 ⟨k.os.trans h.os,k.tape.trans h.tape,k.output.trans h.output,Nat.le_trans h.size k.size,fun i hi hn=>(k.block i (Nat.lt_of_lt_of_le hi h.size) hn).trans (h.block i hi hn)⟩
/-- Where the block is newer than the world, nothing of the world has turned. -/
theorem GX.fresh {b:Nat} {w0 w w':World} (g:G w0 w) (h:GX b w w') (hb:w0.heap.size≤b):G w0 w':=
 Below.grown g h g.size (fun k hk=>by cases hk;exact hb)
/-- How many twos divide a number. -/
def q1Y (a:Nat) (k:Nat):Prop:=a%2^k=0∧a/2^k%2=1
theorem q97 {V i d Z k:Nat} (hv:V=0+2^(32*i)*(d+2^32*Z)) (hd:d%2^k=0) (hx:d/2^k%2=1) (hk:k≤31):q1Y V (32*i+k):=by
 have e1:2^32*Z=2^k*(2*(2^(31-k)*Z)):=by
  rw[← Nat.mul_assoc 2,← Nat.pow_succ',← Nat.mul_assoc,← Nat.pow_add]
  congr 2
  omega
 have hp:=Nat.two_pow_pos k;have hpi:=Nat.two_pow_pos (32*i);subst hv;rw[Nat.zero_add,e1];constructor
 ·rw[Nat.pow_add,Nat.mul_mod_mul_left,Nat.add_mul_mod_self_left,hd,Nat.mul_zero]
 ·rw[Nat.pow_add,← Nat.div_div_eq_div_mul,Nat.mul_div_cancel_left _ hpi,Nat.add_mul_div_left _ _ hp,Nat.add_mul_mod_self_left,hx]
theorem and_one (x:Nat) (hx:x<2^32):bits .and .u32 (x:Int) 1=((x%2:Nat):Int):=by
 have:=u32_and_nat x 1 (by omega) (by omega);rw[Nat.and_one_is_mod] at this;exact this
theorem q35 (w:World) (va:Value) (a K:Nat) (hK:K≤1000000) (ha:Num w va a) (ha2:a<2^(32*K)) (h0:a≠0):
  Calls Tryz.prog 172 #[va] w fun e w'=>∃ k:Nat,e= .returned (.int .u64 k)∧q1Y a k∧G w w':=by
 obtain⟨l,hl,hcl,rfl⟩:=ha;have hll:=q06 hcl ha2;clear ha2;have aN:=hl.1;obtain⟨pa,ca,rfl,dL,hra⟩:=q0n hl;have HA:Hid _:=hra;clear hra hl;generalize hln:l.length=j at *;have HN:Hid _:=hln;have H0:Hid (val l≠0):=h0;clear hln h0;go_enter Tryz.func172,Tryz.ntmps172;go_wp2_with fail
 go_loopw [3,4] (fun vn vk wr=>∃ i:Nat,i≤j∧vk= .int .i64 i∧vn= .int .u64 ((32*i:Nat):Int)∧val (l.take i)=0∧G w wr) (fun _ vk _=>j-(intOf vk).toNat)
 case atStart=>exact⟨0,Nat.zero_le _,rfl,rfl,by simp [val],G.refl _⟩
 case round=>
  obtain⟨i,hi,rfl,rfl,hv,hG⟩:=hrel;have HV:Hid _:=hv;have hij:i<j:=by
   rcases Nat.lt_or_ge i j with h|h
   ·exact h
   ·exfalso;have h1:=HV.out;rw[List.take_of_length_le (by rw[HN.out];omega)] at h1;exact H0.out h1
  clear hv;obtain⟨b1,o1,rfl,hB1,hc1'⟩:=HA.out i hij;have hc1:=hG.cell (p:=⟨b1,o1+i,none⟩) hB1 hc1';clear hc1' hB1;have hx:=q05 aN i;have hts:=q07 l i;have hsp:=q0t (l:=l) (k:=i) (by rw[HN.out];exact hij);rw[HV.out] at hts hsp;have Jn:Hid _:=hts;have Rb:Hid _:=hsp;have hxi:((l.getD i 0:Nat):Int)≤4294967295:=by omega
  generalize l.getD i 0=d at *;clear hts hsp;by_cases hd:d=0
  ·subst hd;go_wp2_with fail
   go_roundw
   case rel=>exact⟨i+1,by omega,by go_num,by go_num,by rw[Jn.out];simp,hG⟩
   case measure=>simp only[intOf];omega
  ·have t0:((d:Int)==0)=false:=by simp;omega
   go_wp2_with fail
   go_loopw [3,5] (fun vn vx wr=>∃ k x:Nat,k≤31∧vn= .int .u64 ((32*i+k:Nat):Int)∧vx= .int .u32 x∧x=d/2^k∧d%2^k=0∧x≠0∧G w wr) (fun _ vx _=>(intOf vx).toNat)
   case atStart=>exact⟨0,d,by omega,rfl,rfl,by simp,by simp [Nat.mod_one],hd,hG⟩
   case round=>
    obtain⟨k,x,hk,rfl,rfl,hxd,hdk,hx0,hG2⟩:=hrel;have hkb:((32*i+k:Nat):Int)≤40000000:=by omega
    have hxb:x<2^32:=by have:=Nat.div_le_self d (2^k);omega
    have hand:=and_one x hxb;have Rc:(x:Int)≤4294967295:=by omega
    obtain⟨r,hr,hr2⟩:∃ r:Nat,r=x%2∧r≤1:=⟨x%2,rfl,by omega⟩;rw[← hr] at hand;have HR:Hid _:=hr;have G9:Hid _:=hxd;have HDK:Hid _:=hdk;have hpos:0<x:=by omega
    clear hr hxd hdk hx0 hxb;by_cases h1:r=1
    ·subst h1;have HF:Hid _:=q97 Rb.out HDK.out (by rw[← G9.out];exact HR.out.symm) hk;have Re:Hid (∀ k',q1Y (val l) k'→q1Y (val l) k'):=fun _ h=>h;generalize 32*i+k=n at *;go_wp2_with fail;go_ret;exact⟨n,rfl,HF.out,hG2⟩
    ·obtain rfl:r=0:=by omega
     obtain⟨u,hu,ht2⟩:∃ u:Nat,u=x/2∧(x:Int)/2=u:=⟨x/2,rfl,by omega⟩;have Ga:u<x:=by omega
     have hk31:k+1≤31:=by
      rcases Nat.lt_or_ge k 31 with h|h
      ·omega
      ·exfalso;have e:k=31:=by omega
       have h3:=G9.out;have h4:=HR.out;subst e;have:d/2^31<2:=by rw[Nat.div_lt_iff_lt_mul (by omega)];omega
       omega
     have h5:d%2^(k+1)=0:=by
      rw[Nat.pow_succ,Nat.mod_mul,HDK.out,← G9.out,← HR.out,Nat.mul_zero]
     have h6:u=d/2^(k+1):=by
      rw[hu,G9.out,Nat.div_div_eq_div_mul,← Nat.pow_succ]
     have H5:Hid _:=h5;have H6:Hid _:=h6;have hu0:u≠0:=by have:=HR.out;omega
     clear hu h5 h6;have hn:((32*i+k:Nat):Int)+1=((32*i+(k+1):Nat):Int):=by omega
     have kP:Hid _:=hn;clear hn;generalize hN:32*i+k=n at *;clear hN;go_wp2_with fail
     go_roundw
     case rel=>exact⟨k+1,u,hk31,by rw[← kP.out],by rfl,H6.out,H5.out,hu0,hG2⟩
     case measure=>simp only[intOf];omega
/-- At b, o lies the Int s, and it may be written. -/
def IntIs (w:World) (b o:Nat) (s:Int):Prop:=∃ n v a,q5E w b o n v∧Num w v a∧sg n a=s∧(n=true→a≠0)
/-- Of block b all but the Int at o has stood still. -/
def Kept (b o:Nat) (w w':World):Prop:=(∀ i,i≠o→i≠o+1→w'.cell? ⟨b,i,none⟩=w.cell? ⟨b,i,none⟩)∧∀ i,w'.frozen? ⟨b,i,none⟩=w.frozen? ⟨b,i,none⟩
theorem q86 {w:World} {b o:Nat} {l:List Nat} {p:Addr} {u u':Value} (h:Row w b o l) (hp:w.cell? p=some u) (hu:∀ z,u≠ .int .u32 z):Row (w.setCell p u') b o l:=fun i hi=>by
 have h1:=h i hi;rw[World.cell?_setCell_other _ _ _ _ (by intro e;rw[e,h1] at hp;exact hu _ (Option.some.inj hp).symm)];exact h1
theorem num_other {w:World} {v:Value} {n:Nat} {p:Addr} {u u':Value} (h:Num w v n) (hp:w.cell? p=some u) (hu:∀ z,u≠ .int .u32 z):Num (w.setCell p u') v n:=by
 obtain⟨l,⟨h1,h2⟩,h3⟩:=h;refine⟨l,⟨h1,?_⟩,h3⟩;rcases h2 with h2|⟨b,o,c,e,hc,hb,hr⟩
 ·exact Or.inl h2
 ·exact Or.inr ⟨b,o,c,e,hc,by simpa [World.setCell] using hb,q86 hr hp hu⟩
theorem q1A {w:World} {v:Value} {n:Nat} (h:Num w v n):∀ k z,v≠ .int k z:=by
 obtain⟨l,hs,-⟩:=h;obtain⟨a,c,rfl,-⟩:=q0n hs;intro k z h;cases h
theorem q1g (w:World) (b o:Nat) (neg:Bool) (s0:Int) (va:Value) (a:Nat) (hz:IntIs w b o s0) (ha:Num w va a):
  Calls Tryz.prog 117 #[.pointer (some ⟨b,o,none⟩),.bool neg,va] w fun e w'=>
   e= .returned (.pointer (some ⟨b,o,none⟩))∧GX b w w'∧Kept b o w w'∧IntIs w' b o (sg neg a):=by
 obtain⟨n0,v0,a0,hat,hv0,-,-⟩:=hz;have ha':=ha;obtain⟨l,hl,hcl,hval⟩:=ha';refine(qbr w b o n0 neg v0 va l hat hl).mono ?_;rintro e w' ⟨rfl,rfl⟩;obtain⟨c1,c2,f1,f2⟩:=hat;have hne:(⟨b,o,none⟩:Addr)≠⟨b,o+1,none⟩:=by intro h;injection h with _ h;omega
 have hn1:=num_other ha (u':=va) c2 (fun z=>q1A hv0 _ z);have c1':(w.setCell ⟨b,o+1,none⟩ va).cell? ⟨b,o,none⟩=some (.bool n0):=by
  rw[World.cell?_setCell_other _ _ _ _ (by intro h;exact hne h.symm)];exact c1
 have hn2:=num_other hn1 (u':= .bool (neg&& !l.isEmpty)) c1' (fun z h=>by cases h);have hempty:l.isEmpty=true↔a=0:=by
  rw[← hval,q0V hcl,List.isEmpty_iff]
 refine⟨rfl,(GX.set (GX.set (GX.of (G.refl w)) va) _),⟨fun i h1 h2=> ?_,fun i=>by rw[World.frozen?_setCell,World.frozen?_setCell]⟩,neg&& !l.isEmpty,va,a,⟨?_,?_,?_,?_⟩,hn2,?_,?_⟩
 ·rw[World.cell?_setCell_other _ _ _ _ (by intro h;injection h with _ h;omega),World.cell?_setCell_other _ _ _ _ (by intro h;injection h with _ h;omega)]
 ·exact World.cell?_setCell_same _ _ _ c1'
 ·rw[World.cell?_setCell_other _ _ _ _ hne];exact World.cell?_setCell_same _ _ _ c2
 ·rw[World.frozen?_setCell,World.frozen?_setCell];exact f1
 ·rw[World.frozen?_setCell,World.frozen?_setCell];exact f2
 ·unfold sg;cases hb:l.isEmpty
  ·simp
  ·have:=hempty.1 hb;subst this;simp
 ·intro h ha0;have:=hempty.2 ha0;rw[this] at h;simp at h
end Go.Proofs.YtbfjihniphldaaaGreatDoor
