/- What is proved here: contracts of package exact: sums of words with a carry, over this seat's translation.
What is proved here: rows of 64-bit words of our own at any place of a block, and what a writing call leaves standing, over this seat's translation.
What is proved here: contracts of package exact: grow, over this seat's translation. -/
import Derived.Test.YtbfjihniphldaaaGreatDoorC3
import Derived.Shelf.Spec.BitsCarry
namespace Go.Proofs.YtbfjihniphldaaaGreatDoor.EN
open Go.ChangeShapes Go.WideShapes Go.ChangeAt Go.RowKit
theorem q3i (x y c:Nat) (hc:c≤1) (w:World):
  (callFunc 192 #[.int .u64 (x:Int),.int .u64 (y:Int),.int .u64 (c:Int)]).run Tryz.prog w=
   .ok (.value (.tuple #[.int .u64 (((x+y+c)%18446744073709551616:Nat):Int),.int .u64 (((x+y+c)/18446744073709551616:Nat):Int)])) w:=by
 rw[run_callFunc_extern Tryz.func192 (by kernel_rfl) (by kernel_rfl) (by kernel_rfl) (e:=add64Entry) (by kernel_rfl),run_add64 x y c (by omega) (by omega) (by omega) (by omega)];simp only[Result.andThen]
 congr 5<;>omega
theorem q7j (x y b:Nat) (hb:b≤1) (w:World):
  (callFunc 225 #[.int .u64 (x:Int),.int .u64 (y:Int),.int .u64 (b:Int)]).run Tryz.prog w=
   .ok (.value (.tuple #[.int .u64 (((x+18446744073709551616-y-b)%18446744073709551616:Nat):Int),.int .u64 ((if x<y+b then 1 else 0:Nat):Int)])) w:=by
 rw[run_callFunc_extern Tryz.func225 (by kernel_rfl) (by kernel_rfl) (by kernel_rfl) (e:=sub64Entry) (by kernel_rfl),run_sub64 x y b hb];rfl
/-- A row of our own: from place o of block b on; may be written. -/
structure At (w:World) (b o:Nat) (l:List Nat):Prop where
 ok:okw l
 hb:b<w.heap.size
 row:Row w b o l
 free:∀ i,i<l.length→w.frozen? ⟨b,o+i,none⟩=false
/-- Worlds that differ from w, below its size, at places o to o + n of block b alone. -/
structure GB (b o n:Nat) (w w':World):Prop where
 gx:w.grownBy w' (some b)
 cell:∀ i,(i<o∨o+n≤i)→w'.cell? ⟨b,i,none⟩=w.cell? ⟨b,i,none⟩
 frozen:∀ i,w'.frozen? ⟨b,i,none⟩=w.frozen? ⟨b,i,none⟩
theorem Own.at {w:World} {b:Nat} {l:List Nat} (h:Own w b l):At w b 0 l:=⟨h.1,h.2.1,h.2.2.1,fun i hi=>by rw[Nat.zero_add];exact h.2.2.2 i hi⟩
theorem At.own {w:World} {b:Nat} {l:List Nat} (h:At w b 0 l):Own w b l:=⟨h.ok,h.hb,h.row,fun i hi=>by have:=h.free i hi;rwa[Nat.zero_add] at this⟩
theorem At.sl {w:World} {b o:Nat} {l:List Nat} (h:At w b o l) (c:Nat) (hc:l.length≤c):Sl w (.slice (some ⟨b,o,none⟩) l.length c) l:=
 ⟨h.ok,Or.inr ⟨b,o,c,rfl,hc,h.hb,h.row⟩⟩
theorem At.set {w:World} {b o:Nat} {l:List Nat} (h:At w b o l) (i x:Nat) (hi:i<l.length) (hx:x<2^64):
  At (w.setCell ⟨b,o+i,none⟩ (.int .u64 (x:Int))) b o (l.set i x):=by
 obtain⟨h1,h2,h3,h4⟩:=h;refine⟨q4r h1 i x hx,by simpa using h2,fun j hj=> ?_,fun j hj=>by rw[World.frozen?_setCell];exact h4 j (by simpa using hj)⟩;have hj':j<l.length:=by simpa using hj
 have hc:=h3 j hj';by_cases e:i=j
 ·subst e;rw[World.cell?_setCell_same _ _ _ hc,q0g hi]
 ·rw[World.cell?_setCell_other _ _ _ _ (by intro h;apply e;injection h;omega),hc]
  congr 3
  rw[List.getD_eq_getElem?_getD,List.getD_eq_getElem?_getD,List.getElem?_set_ne e]
theorem GB.of {b o n:Nat} {w w':World} (h:G w w') (hb:b<w.heap.size):GB b o n w w':=by
 refine⟨⟨h.os,h.tape,h.output,h.size,fun k hk _=>h.block k hk⟩,fun i _=>Below.cell h hb,fun i=>Below.frozen h hb⟩
theorem GB.refl (b o n:Nat) (w:World) (hb:b<w.heap.size):GB b o n w w:=GB.of (G.refl _) hb
theorem GB.size {b o n:Nat} {w w':World} (h:GB b o n w w'):w.heap.size≤w'.heap.size:=h.gx.size
theorem GB.set {b o n i:Nat} {w w':World} (h:GB b o n w w') (hi:i<n) (v:Value):GB b o n w (w'.setCell ⟨b,o+i,none⟩ v):=by
 refine⟨⟨h.gx.os,h.gx.tape,h.gx.output,by simpa [World.setCell] using h.gx.size,fun k hk hn=> ?_⟩,fun j hj=> ?_,fun j=> ?_⟩
 ·have hne:k≠b:=fun e=>hn (by rw[e]);rw[← h.gx.block k hk hn];exact Below.heap_setCell _ _ _ _ hne
 ·rw[World.cell?_setCell_other _ _ _ _ (by intro h;injection h;omega)];exact h.cell j hj
 ·rw[World.frozen?_setCell];exact h.frozen j
theorem GB.fresh {b o n:Nat} {w0 w w':World} (g:G w0 w) (h:GB b o n w w') (hb:w0.heap.size≤b):G w0 w':=
 Below.grown g h.gx g.size (fun k hk=>by cases hk;exact hb)
/-- A row in another block stands. -/
theorem GB.other {b o n c:Nat} {w w':World} (h:GB b o n w w') {i:Nat} (hc:c<w.heap.size) (hn:c≠b):w'.cell? ⟨c,i,none⟩=w.cell? ⟨c,i,none⟩:=by
 have hb:=h.gx.block c hc (by intro e;cases e;exact hn rfl);simp only[World.cell?,hb]
/-- One step of a sum in place. -/
theorem grow_step {l cs m:List Nat} {k c n:Nat} (hk:k<n) (hcs:cs.length=n) (hst:cs.drop k=l.drop k) (hln:l.length=n)
  (h:val (cs.take k)+2^(64*k)*c=val (l.take k)+val (m.take k)):
  cs.getD k 0=l.getD k 0∧(cs.set k ((l.getD k 0+m.getD k 0+c)%2^64)).drop (k+1)=l.drop (k+1)∧
  val ((cs.set k ((l.getD k 0+m.getD k 0+c)%2^64)).take (k+1))+2^(64*(k+1))*((l.getD k 0+m.getD k 0+c)/2^64)=val (l.take (k+1))+val (m.take (k+1)):=by
 have e1:=q0h (l:=cs) (k:=k) (by omega);have e2:=q0h (l:=l) (k:=k) (by omega);rw[e1,e2] at hst;injection hst with e3 e4;refine⟨e3,?_,?_⟩
 ·rw[List.drop_set_of_lt (by omega),e4]
 ·rw[q0j (by omega),q07 l,q07 m];generalize l.getD k 0=x at *;generalize m.getD k 0=y at *;rw[show 64*(k+1)=64*k+64 from by omega,Nat.pow_add,Nat.mul_assoc,Nat.add_assoc,← Nat.mul_add];have:(x+y+c)%2^64+2^64*((x+y+c)/2^64)=x+y+c:=Nat.mod_add_div _ _;rw[this,Nat.mul_add,Nat.mul_add];omega
/-- What grow hands back, and leaves in memory. -/
def q9R (w:World) (b o:Nat) (l:List Nat) (s:Nat) (e:Ending) (w':World):Prop:=
 ∃ (cs:List Nat) (q:Nat),e= .returned (.bool (q==1))∧q≤1∧cs.length=l.length∧At w' b o cs∧GB b o l.length w w'∧val cs+2^(64*l.length)*q=s
theorem q81 (w:World) (b o c:Nat) (vb:Value) (l m:List Nat) (hz:At w b o l) (hc:l.length≤c) (hb:Sl w vb m) (hd:∀ b2 o2 n2 c2,vb= .slice (some ⟨b2,o2,none⟩) n2 c2→m≠[]→b2≠b) (hlen:m.length≤l.length) (hll:l.length≤1048000):
  Calls Tryz.prog 178 #[.slice (some ⟨b,o,none⟩) l.length c,vb] w (q9R w b o l (val l+val m)):=by
 have aN:=hz.ok;have fO:=hb.1;obtain⟨pb,cb,rfl,hcb,hrb⟩:=q0n hb;have HB:Hid _:=hrb;have HZ:Hid _:=hz;have HD:Hid _:=hd;clear hrb hb hz hd;generalize hn:l.length=n at *;generalize hj:m.length=j at *;have HN:Hid _:=hn;have HJ:Hid _:=hj;clear hn hj;go_enter Tryz.func178,Tryz.ntmps178;go_wp2_with fail
 go_loopw [5,10] (fun vc vk wr=>∃ (k q:Nat) (cs:List Nat),k≤n∧vk= .int .i64 k∧vc= .int .u64 q∧q≤1∧cs.length=n∧cs.drop k=l.drop k∧At wr b o cs∧GB b o n w wr∧val (cs.take k)+2^(64*k)*q=val (l.take k)+val (m.take k)) (fun _ vk _=>n-(intOf vk).toNat)
 case atStart=>exact⟨0,0,l,Nat.zero_le _,rfl,rfl,by omega,HN.out,rfl,HZ.out,GB.refl _ _ _ _ HZ.out.hb,by simp [val]⟩
 case round=>
  obtain⟨k,q,cs,hk,rfl,rfl,hq,hcs,hst,hown,hG,hval⟩:=hrel;have HC:Hid _:=hcs;have HO:Hid _:=hown;have HG:Hid _:=hG;have hqi:(q:Int)≤1:=by omega
  by_cases hkn:k<n
  ·obtain⟨q1,q2,q3⟩:=grow_step hkn hcs hst HN.out hval;have Q2:Hid _:=q2;have Q3:Hid _:=q3;have hx:=q05 aN k;have hy:=q05 fO k;have hcell:=hown.row k (by omega);have hfree:=hown.free k (by omega);rw[q1] at hcell;clear q1 q2 q3 hval hst hown hcs;by_cases hkj:k<j
   ·obtain⟨b2,o2,rfl,hB2,hc2'⟩:=HB.out k hkj;have hne:=HD.out b2 o2 _ _ rfl (fun e=>by have h:=HJ.out;rw[e,List.length_nil] at h;omega);have hc2:=(HG.out.other hB2 hne).trans hc2';clear hc2' hB2 hne hG;generalize l.getD k 0=x at *;generalize m.getD k 0=y at *;have hadd:=q3i x y q hq;have hr:(x+y+q)%2^64<2^64:=Nat.mod_lt _ (by decide);have hq1:(x+y+q)/2^64≤1:=by omega
    rw[show (18446744073709551616:Nat)=2^64 from rfl] at hadd;generalize (x+y+q)%2^64=r at *;generalize (x+y+q)/2^64=q' at *;have HR:Hid _:=hr;clear hr;go_wp2_with fail
    go_roundw
    case rel=>exact⟨k+1,q',cs.set k r,by omega,by go_num,rfl,hq1,by rw[List.length_set];exact HC.out,Q2.out,At.set HO.out k r (by rw[HC.out];omega) HR.out,GB.set HG.out hkn _,Q3.out⟩
    case measure=>simp only[intOf];omega
   ·have hy0:m.getD k 0=0:=by rw[List.getD_eq_getElem?_getD,List.getElem?_eq_none (by rw[HJ.out];omega)];rfl
    rw[hy0] at Q2 Q3;clear hy hy0 hG;generalize l.getD k 0=x at *;have hadd:=q3i x 0 q hq;rw[show ((0:Nat):Int)=0 from rfl] at hadd;have hr:(x+0+q)%2^64<2^64:=Nat.mod_lt _ (by decide);have hq1:(x+0+q)/2^64≤1:=by omega
    rw[show (18446744073709551616:Nat)=2^64 from rfl] at hadd;generalize (x+0+q)%2^64=r at *;generalize (x+0+q)/2^64=q' at *;have HR:Hid _:=hr;clear hr;go_wp2_with fail
    go_roundw
    case rel=>exact⟨k+1,q',cs.set k r,by omega,by go_num,rfl,hq1,by rw[List.length_set];exact HC.out,Q2.out,At.set HO.out k r (by rw[HC.out];omega) HR.out,GB.set HG.out hkn _,Q3.out⟩
    case measure=>simp only[intOf];omega
  ·obtain rfl:k=n:=by omega
   have hv:val cs+2^(64*k)*q=val l+val m:=by
    rw[List.take_of_length_le (by omega),List.take_of_length_le (by rw[HN.out];omega),List.take_of_length_le (by rw[HJ.out];omega)] at hval;exact hval
   have HV:Hid _:=hv;have wW:=HN.out;have sU:Hid (l.length=k):=wW;clear hv hval hst hown hG hcs wW;go_wp2_with fail;go_ret;refine⟨cs,q,?_,hq,by rw[HC.out,sU.out],HO.out,by rw[sU.out];exact HG.out,by rw[sU.out];exact HV.out⟩;have hq2:q=0∨q=1:=by omega
   rcases hq2 with rfl|rfl<;>rfl
end Go.Proofs.YtbfjihniphldaaaGreatDoor.EN
