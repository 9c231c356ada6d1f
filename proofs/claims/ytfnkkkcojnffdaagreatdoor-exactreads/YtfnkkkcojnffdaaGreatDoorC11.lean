/- What is proved here: contracts of package exact: sums of words with a carry, over this seat's translation.
What is proved here: rows of 64-bit words of our own at any place of a block, and what a writing call leaves standing, over this seat's translation.
What is proved here: contracts of package exact: grow, over this seat's translation. -/
import Derived.Test.YtfnkkkcojnffdaaGreatDoorC1
import Derived.Test.YtfnkkkcojnffdaaGreatDoorC8
import Derived.Test.YtfnkkkcojnffdaaGreatDoorC9
import Derived.Shelf.Spec.BitsCarry
import Derived.Test.YtfnkkkcojnffdaaGreatDoorC3
namespace Go.Proofs.YtfnkkkcojnffdaaGreatDoor.EN
open Go.ChangeShapes Go.WideShapes Go.ChangeAt Go.RowKit
theorem gZ (x y c:Nat) (A:c≤1) (w:World):
  (callFunc 178 #[.int .u64 (x:Int),.int .u64 (y:Int),.int .u64 (c:Int)]).run Tryz.prog w=
   .ok (.value (.tuple #[.int .u64 (((x+y+c)%18446744073709551616:Nat):Int),.int .u64 (((x+y+c)/18446744073709551616:Nat):Int)])) w:=by
 rw[run_callFunc_extern Tryz.func178 dV dV dV (e:=add64Entry) dV,run_add64 x y c dT dT dT dT];simp only[Result.andThen]
 congr 5<;>omega
theorem nQ (x y b:Nat) (hb:b≤1) (w:World):
  (callFunc 207 #[.int .u64 (x:Int),.int .u64 (y:Int),.int .u64 (b:Int)]).run Tryz.prog w=
   .ok (.value (.tuple #[.int .u64 (((x+18446744073709551616-y-b)%18446744073709551616:Nat):Int),.int .u64 ((if x<y+b then 1 else 0:Nat):Int)])) w:=by
 rw[run_callFunc_extern Tryz.func207 dV dV dV (e:=sub64Entry) dV,run_sub64 x y b hb];rfl
/-- A row of our own: from place o of block b on; may be written. -/
structure At (w:World) (b o:Nat) (l:List Nat):Prop where
 ok:okw l
 hb:b<w.heap.size
 row:Row w b o l
 free:∀ i,i<l.length→w.frozen? ⟨b,o+i,none⟩=false
/-- Worlds that differ from w, below its size, at places o to o + n of block b alone. -/
structure GB (b o n:Nat) (w w':World):Prop where
 gx:w.grownBy w' (some b)
 cell:∀ i,(i<o∨o+n≤i)→w'.cell? ⟨b,i,none⟩=w.cell? ⟨b,i,none⟩
 frozen:∀ i,w'.frozen? ⟨b,i,none⟩=w.frozen? ⟨b,i,none⟩
theorem Own.at {w:World} {b:Nat} {l:List Nat} (h:Own w b l):At w b 0 l:=⟨h.1,h.2.1,h.2.2.1,fun i hi=>by rw[az];exact h.2.2.2 i hi⟩
theorem At.own {w:World} {b:Nat} {l:List Nat} (h:At w b 0 l):Own w b l:=⟨h.ok,h.hb,h.row,fun i hi=>by have:=h.free i hi;rwa[az] at this⟩
theorem At.sl {w:World} {b o:Nat} {l:List Nat} (h:At w b o l) (c:Nat) (A:l.length≤c):Sl w (.slice (some ⟨b,o,none⟩) l.length c) l:=
 ⟨h.ok,Or.inr ⟨b,o,c,rfl,A,h.hb,h.row⟩⟩
theorem At.set {w:World} {b o:Nat} {l:List Nat} (h:At w b o l) (i x:Nat) (hi:i<l.length) (E:x<2^64):
  At (w.setCell ⟨b,o+i,none⟩ (.int .u64 (x:Int))) b o (l.set i x):=by
 obtain⟨h1,h2,h3,D⟩:=h;refine⟨jc h1 i x E,by simpa using h2,fun j A=> ?_,fun j A=>by rw[World.frozen?_setCell];exact D j (by simpa using A)⟩;have B:j<l.length:=by simpa using A
 have C:=h3 j B;by_cases e:i=j
 ·subst e;rw[World.cell?_setCell_same _ _ _ C,eh hi]
 ·rw[World.cell?_setCell_other _ _ _ _ (by intro h;apply e;injection h;omega),C]
  congr 3
  rw[ab,ab,aS e]
theorem GB.of {b o n:Nat} {w A:World} (h:G w A) (hb:b<w.heap.size):GB b o n w A:=by
 refine⟨⟨h.os,h.tape,h.output,h.size,fun k B _=>h.block k B⟩,fun i _=>Below.cell h hb,fun i=>Below.frozen h hb⟩
theorem GB.refl (b o n:Nat) (w:World) (hb:b<w.heap.size):GB b o n w w:=GB.of (af _) hb
theorem GB.size {b o n:Nat} {w A:World} (h:GB b o n w A):w.heap.size≤A.heap.size:=h.gx.size
theorem GB.set {b o n i:Nat} {w C:World} (h:GB b o n w C) (hi:i<n) (v:Value):GB b o n w (C.setCell ⟨b,o+i,none⟩ v):=by
 refine⟨⟨h.gx.os,h.gx.tape,h.gx.output,by simpa [World.setCell] using h.gx.size,fun k E B=> ?_⟩,fun j D=> ?_,fun j=> ?_⟩
 ·have A:k≠b:=fun e=>B (by rw[e]);rw[← h.gx.block k E B];exact Below.heap_setCell _ _ _ _ A
 ·rw[World.cell?_setCell_other _ _ _ _ (by intro h;injection h;omega)];exact h.cell j D
 ·rw[World.frozen?_setCell];exact h.frozen j
theorem GB.fresh {b o n:Nat} {w0 w A:World} (g:G w0 w) (h:GB b o n w A) (hb:w0.heap.size≤b):G w0 A:=
 Below.grown g h.gx g.size (fun k B=>by cases B;exact hb)
/-- A row in another block stands. -/
theorem GB.other {b o n c:Nat} {w A:World} (h:GB b o n w A) {i:Nat} (B:c<w.heap.size) (C:c≠b):A.cell? ⟨c,i,none⟩=w.cell? ⟨c,i,none⟩:=by
 have hb:=h.gx.block c B (by intro e;cases e;exact C rfl);simp only[World.cell?,hb]
/-- One step of a sum in place. -/
theorem grow_step {l cs m:List Nat} {k c n:Nat} (J:k<n) (F:cs.length=n) (A:cs.drop k=l.drop k) (I:l.length=n)
  (h:val (cs.take k)+2^(64*k)*c=val (l.take k)+val (m.take k)):
  cs.getD k 0=l.getD k 0∧(cs.set k ((l.getD k 0+m.getD k 0+c)%2^64)).drop (k+1)=l.drop (k+1)∧
  val ((cs.set k ((l.getD k 0+m.getD k 0+c)%2^64)).take (k+1))+2^(64*(k+1))*((l.getD k 0+m.getD k 0+c)/2^64)=val (l.take (k+1))+val (m.take (k+1)):=by
 have B:=eg (l:=cs) (k:=k) dT;have C:=eg (l:=l) (k:=k) dT;rw[B,C] at A;injection A with D E;refine⟨D,?_,?_⟩
 ·rw[bP dT,E]
 ·rw[en dT,ed l,ed m];generalize l.getD k 0=x at *;generalize m.getD k 0=y at *;rw[show 64*(k+1)=64*k+64 from by omega,ah,aj,bR,← ax];have:(x+y+c)%2^64+2^64*((x+y+c)/2^64)=x+y+c:=Nat.mod_add_div _ _;rw[this,ax,ax];omega
/-- What grow hands back, and leaves in memory. -/
def q05 (w:World) (b o:Nat) (l:List Nat) (s:Nat) (e:Ending) (A:World):Prop:=
 ∃ (cs:List Nat) (q:Nat),e= .returned (.bool (q==1))∧q≤1∧cs.length=l.length∧At A b o cs∧GB b o l.length w A∧val cs+2^(64*l.length)*q=s
theorem mq (w:World) (b o c:Nat) (vb:Value) (l m:List Nat) (hz:At w b o l) (hc:l.length≤c) (hb:Sl w vb m) (hd:∀ i o2 n2 c2,vb= .slice (some ⟨i,o2,none⟩) n2 c2→m≠[]→i≠b) (ao:m.length≤l.length) (bl:l.length≤1048000):
  Calls Tryz.prog 128 #[.slice (some ⟨b,o,none⟩) l.length c,vb] w (q05 w b o l (val l+val m)):=by
 have S:=hz.ok;have U:=hb.1;obtain⟨pb,cb,rfl,bi,X⟩:=ei hb;have HB:=hi9 X;have HZ:=hi9 hz;have HD:=hi9 hd;clear X hb hz hd;generalize hn:l.length=n at *;generalize hj:m.length=j at *;have d:=hi9 hn;have HJ:=hi9 hj;clear hn hj;go_enter Tryz.func128,Tryz.ntmps128;go_wp2_with fail
 go_loopw [5,10] (fun vc vk wr=>∃ (k q:Nat) (cs:List Nat),k≤n∧vk= .int .i64 k∧vc= .int .u64 q∧q≤1∧cs.length=n∧cs.drop k=l.drop k∧At wr b o cs∧GB b o n w wr∧val (cs.take k)+2^(64*k)*q=val (l.take k)+val (m.take k)) (fun _ vk _=>n-(intOf vk).toNat)
 case atStart=>exact⟨0,0,l,bo _,rfl,rfl,by omega,d.out,rfl,HZ.out,GB.refl _ _ _ _ HZ.out.hb,by simp [val]⟩
 case round=>
  obtain⟨k,q,cs,hk,rfl,rfl,hq,D,L,A,s,B⟩:=hrel;have M:=hi9 D;have HO:=hi9 A;have Z:=hi9 s;have bn:(q:Int)≤1:=by omega
  by_cases J:k<n
  ·obtain⟨q1,q2,q3⟩:=grow_step J D L d.out B;have Q2:=hi9 q2;have Q3:=hi9 q3;have hx:=dW S k;have hy:=dW U k;have I:=A.row k dT;have al:=A.free k dT;rw[q1] at I;clear q1 q2 q3 B L A D;by_cases am:k<j
   ·obtain⟨i,o2,rfl,O,E⟩:=HB.out k am;have R:=HD.out i o2 _ _ rfl (fun e=>by have h:=HJ.out;rw[e,cW] at h;omega);have ap:=(Z.out.other O R).trans E;clear E O R s;generalize l.getD k 0=x at *;generalize m.getD k 0=y at *;have C:=gZ x y q hq;have W:(x+y+q)%2^64<2^64:=aU _ ey;have K:(x+y+q)/2^64≤1:=by omega
    rw[show (18446744073709551616:Nat)=2^64 from rfl] at C;generalize (x+y+q)%2^64=r at *;generalize (x+y+q)/2^64=q' at *;have HR:=hi9 W;clear W;go_wp2_with fail
    go_roundw
    case rel=>exact⟨k+1,q',cs.set k r,by omega,by go_num,rfl,K,by rw[av];exact M.out,Q2.out,At.set HO.out k r (by rw[M.out];omega) HR.out,GB.set Z.out J _,Q3.out⟩
    case measure=>simp only[intOf];omega
   ·have Y:m.getD k 0=0:=by rw[ab,bj (by rw[HJ.out];omega)];rfl
    rw[Y] at Q2 Q3;clear hy Y s;generalize l.getD k 0=x at *;have C:=gZ x 0 q hq;rw[show ((0:Nat):Int)=0 from rfl] at C;have W:(x+0+q)%2^64<2^64:=aU _ ey;have K:(x+0+q)/2^64≤1:=by omega
    rw[show (18446744073709551616:Nat)=2^64 from rfl] at C;generalize (x+0+q)%2^64=r at *;generalize (x+0+q)/2^64=q' at *;have HR:=hi9 W;clear W;go_wp2_with fail
    go_roundw
    case rel=>exact⟨k+1,q',cs.set k r,by omega,by go_num,rfl,K,by rw[av];exact M.out,Q2.out,At.set HO.out k r (by rw[M.out];omega) HR.out,GB.set Z.out J _,Q3.out⟩
    case measure=>simp only[intOf];omega
  ·obtain rfl:k=n:=by omega
   have hv:val cs+2^(64*k)*q=val l+val m:=by
    rw[aw dT,aw (by rw[d.out];omega),aw (by rw[HJ.out];omega)] at B;exact B
   have HV:=hi9 hv;have N:=d.out;have F:Hid (l.length=k):=N;clear hv B L A s D N;go_wp2_with fail;go_ret;refine⟨cs,q,?_,hq,by rw[M.out,F.out],HO.out,by rw[F.out];exact Z.out,by rw[F.out];exact HV.out⟩;have an:q=0∨q=1:=by omega
   rcases an with rfl|rfl<;>rfl
end Go.Proofs.YtfnkkkcojnffdaaGreatDoor.EN
