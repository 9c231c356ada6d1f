/- What is proved here: contracts of the reference's big numbers: twin, over this seat's translation.
What is proved here: contracts of the reference's big numbers: sum of signed numbers, over this seat's translation.
What is proved here: contracts of the reference's big numbers: the methods of Int that write, over this seat's translation.
What is proved here: contracts of the reference's big numbers: SetUint64, Sign, twos, over this seat's translation.
What is proved here: what an Int in memory is, and the methods of Int that set it, over this seat's translation. -/
import Derived.Test.YtfnkkkcojnffdaaGreatDoorC1
import Derived.Test.YtfnkkkcojnffdaaGreatDoorC9
import Derived.Laws.OwnMore
import Derived.Test.YtfnkkkcojnffdaaGreatDoorC3
namespace Go.Proofs.YtfnkkkcojnffdaaGreatDoor
open Go.ChangeShapes Go.WideShapes Go.ChangeAt Go.RowKit
open BN
theorem addr_add (b o i:Nat):(⟨b,o,none⟩:Addr).add i=⟨b,o+i,none⟩:=Addr.add_lit ..
/-- A row that append laid is a slice of the words. -/
theorem qm {w:World} {A:Nat} {e:TypeId} {v:Value} {l:List Nat} (C:canon l)
  (h:w.ownsRow A e 1 v l.length (l.map fun d=> .int .u32 (d:Nat))):Num w v (val l):=by
 refine⟨l,⟨C.1,?_⟩,C,rfl⟩;have E:=h;obtain⟨-,⟨rfl,F⟩|⟨g,cap,D,rfl,I,hb,B,-⟩⟩:=h
 ·exact Or.inl ⟨aC F,none,0,rfl⟩
 ·refine Or.inr ⟨g,0,cap,rfl,B,?_,fun i hi=> ?_⟩
  ·exact(aT.1 hb).1
  ·rw[az,E.cellAt i dT,db,aB hi,ab,aB hi];rfl
theorem kK (w:World) (va:Value) (a K:Nat) (hK:K≤1000000) (W:Num w va a) (D:a<2^(32*K)):
  Calls Tryz.prog 124 #[va] w (ef w a):=by
 obtain⟨l,i,E,rfl⟩:=W;have m:=dX E D;clear D;rcases Sl.cases i with ⟨rfl,p,c,rfl⟩|⟨s,b,o,c,rfl,X,hb,y⟩
 ·cases p
  all_goals
   go_enter Tryz.func124,Tryz.ntmps124;go_wp2_with fail;go_ret;exact⟨_,rfl,af _,fh _ _ _⟩
 ·obtain⟨i0,hi,L⟩:=bI.1 nB;have M:i0.zero=some (.int .u32 0):=congrArg (fun t=>t.1) L;have N:i0.size=1:=congrArg (fun t=>t.2.1) L;have O:i0.bytes=4:=congrArg (fun t=>t.2.2) L;have C:∀ j u,(l.map fun d=>Value.int .u32 (d:Nat))[j]? =some u→w.cell? ((⟨b,o,none⟩:Addr).add j)=some u:=by
   intro j u S;rw[db] at S;obtain⟨d,R,rfl⟩:=bI.1 S;have I:=(aQ.1 R).1;have:=y j I;rw[ab,R] at this;rw[addr_add];exact this
  have h1:∀ u∈(l.map fun d=>Value.int .u32 (d:Nat)),u.oneCell'=true:=by
   intro u hu;obtain⟨d,-,rfl⟩:=b6.1 hu;rfl
  have J:(l.map fun d=>Value.int .u32 (d:Nat)).length=l.length*1:=by simp
  go_enter Tryz.func124,Tryz.ntmps124;go_wp2_with (at_builtin;refine wpList_append_own _ rfl _ _ 41 rfl w.heap.size 149 i0 (.int .u32 0) 1 4 Tryz.underlying41 hi M N O rfl ey (.slice none 0 0) 0 [] rfl (World.ownsRow_nil w _ _ _) ⟨b,o,none⟩ l.length c _ rfl J C h1 (by unfold maxLen;omega) dT (ay _) ?_;intro e w1 A B U);rw[az,cK] at A;have Y:G w w1:=Below.grown (Below.refl _ _) B (ay _) (fun k Z=>by cases Z);have F:=qm E A;go_ret;exact⟨e,rfl,Y,F⟩
/-- A sign and a size. -/
def sg (n:Bool) (a:Nat):Int:=if n then -(a:Int) else a
/-- At p lies an Int that may be written. -/
def jT (w:World) (b o:Nat) (n:Bool) (v:Value):Prop:=
 w.cell? ⟨b,o,none⟩=some (.bool n)∧w.cell? ⟨b,o+1,none⟩=some v∧w.frozen? ⟨b,o,none⟩=false∧w.frozen? ⟨b,o+1,none⟩=false
theorem q1r (w:World) (b o:Nat) (n0 neg:Bool) (v0 va:Value) (l:List Nat) (F:jT w b o n0 v0) (B:Sl w va l):
  Calls Tryz.prog 113 #[.pointer (some ⟨b,o,none⟩),.bool neg,va] w fun e I=>
   e= .returned (.pointer (some ⟨b,o,none⟩))∧I=(w.setCell ⟨b,o+1,none⟩ va).setCell ⟨b,o,none⟩ (.bool (neg&& !l.isEmpty)):=by
 obtain⟨c1,J,f1,f2⟩:=F;obtain⟨L,K,rfl,E,A⟩:=ei B;have C:decide (0<l.length)= !l.isEmpty:=by cases l<;>simp
 have D:=hi9 C;clear A B C;cases neg
 ·go_enter Tryz.func113,Tryz.ntmps113;go_wp2_with fail;go_ret;exact⟨rfl,rfl⟩
 ·rw[Bool.true_and,← D.out];go_enter Tryz.func113,Tryz.ntmps113;go_wp2_with fail;go_ret;exact⟨rfl,rfl⟩
/-- Worlds that differ from w, below its size, in block b alone. -/
def GX (b:Nat) (w A:World):Prop:=w.grownBy A (some b)
theorem GX.of {b:Nat} {w A:World} (h:G w A):GX b w A:=⟨h.os,h.tape,h.output,h.size,fun k B _=>h.block k B⟩
theorem GX.set {b o:Nat} {w C:World} (h:GX b w C) (v:Value):GX b w (C.setCell ⟨b,o,none⟩ v):=by
 refine⟨h.os,h.tape,h.output,by simpa [World.setCell] using h.size,fun k D B=> ?_⟩;have A:k≠b:=fun e=>B (by rw[e]);rw[← h.block k D B];exact Below.heap_setCell _ _ _ _ A
theorem GX.trans {b:Nat} {w C A:World} (h:GX b w C) (k:GX b C A):GX b w A:=
 ⟨k.os.trans h.os,k.tape.trans h.tape,k.output.trans h.output,ch h.size k.size,fun i hi B=>(k.block i (ad hi h.size) B).trans (h.block i hi B)⟩
/-- Where the block is newer than the world, nothing of the world has turned. -/
theorem GX.fresh {b:Nat} {w0 w A:World} (g:G w0 w) (h:GX b w A) (hb:w0.heap.size≤b):G w0 A:=
 Below.grown g h g.size (fun k B=>by cases B;exact hb)
/-- How many twos divide a number. -/
def gW (a:Nat) (k:Nat):Prop:=a%2^k=0∧a/2^k%2=1
theorem q02 {V i d Z k:Nat} (hv:V=0+2^(32*i)*(d+2^32*Z)) (C:d%2^k=0) (E:d/2^k%2=1) (F:k≤31):gW V (32*i+k):=by
 have B:2^32*Z=2^k*(2*(2^(31-k)*Z)):=by
  rw[← aj 2,← Nat.pow_succ',← aj,← ah]
  congr 2
  omega
 have D:=ae k;have A:=ae (32*i);subst hv;rw[az,B];constructor
 ·rw[ah,Nat.mul_mod_mul_left,dM,C,bm]
 ·rw[ah,← bL,dt _ A,de _ _ D,dM,E]
theorem and_one (x:Nat) (A:x<2^32):bits .and .u32 (x:Int) 1=((x%2:Nat):Int):=by
 have:=u32_and_nat x 1 dT dT;rw[Nat.and_one_is_mod] at this;exact this
theorem iQ (w:World) (va:Value) (a K:Nat) (hK:K≤1000000) (ha:Num w va a) (J:a<2^(32*K)) (h0:a≠0):
  Calls Tryz.prog 156 #[va] w fun e w'=>∃ k:Nat,e= .returned (.int .u64 k)∧gW a k∧G w w':=by
 obtain⟨l,s,o,rfl⟩:=ha;have bq:=dX o J;clear J;have R:=s.1;obtain⟨pa,ca,rfl,bl,S⟩:=ei s;have HA:=hi9 S;clear S s;generalize O:l.length=j at *;have HN:=hi9 O;have H0:Hid (val l≠0):=h0;clear O h0;go_enter Tryz.func156,Tryz.ntmps156;go_wp2_with fail
 go_loopw [3,4] (fun vn vk wr=>∃ i:Nat,i≤j∧vk= .int .i64 i∧vn= .int .u64 ((32*i:Nat):Int)∧val (l.take i)=0∧G w wr) (fun _ vk _=>j-(intOf vk).toNat)
 case atStart=>exact⟨0,bo _,rfl,rfl,by simp [val],af _⟩
 case round=>
  obtain⟨i,hi,rfl,rfl,hv,m⟩:=hrel;have HV:=hi9 hv;have M:i<j:=by
   rcases bg i j with h|h
   ·exact h
   ·exfalso;have h1:=HV.out;rw[aw (by rw[HN.out];omega)] at h1;exact H0.out h1
  clear hv;obtain⟨b1,o1,rfl,F,B⟩:=HA.out i M;have bi:=m.cell (p:=⟨b1,o1+i,none⟩) F B;clear B F;have hx:=dW R i;have D:=ed l i;have C:=ew (l:=l) (k:=i) (by rw[HN.out];exact M);rw[HV.out] at D C;have c:=hi9 D;have Z:=hi9 C;have cb:((l.getD i 0:Nat):Int)≤4294967295:=by omega
  generalize l.getD i 0=d at *;clear D C;by_cases hd:d=0
  ·subst hd;go_wp2_with fail
   go_roundw
   case rel=>exact⟨i+1,by omega,by go_num,by go_num,by rw[c.out];simp,m⟩
   case measure=>simp only[intOf];omega
  ·have t0:((d:Int)==0)=false:=by simp;omega
   go_wp2_with fail
   go_loopw [3,5] (fun vn vx wr=>∃ k x:Nat,k≤31∧vn= .int .u64 ((32*i+k:Nat):Int)∧vx= .int .u32 x∧x=d/2^k∧d%2^k=0∧x≠0∧G w wr) (fun _ vx _=>(intOf vx).toNat)
   case atStart=>exact⟨0,d,by omega,rfl,rfl,by simp,by simp [Nat.mod_one],hd,m⟩
   case round=>
    obtain⟨k,x,hk,rfl,rfl,W,L,am,I⟩:=hrel;have bn:((32*i+k:Nat):Int)≤40000000:=by omega
    have U:x<2^32:=by have:=bh d (2^k);omega
    have hand:=and_one x U;have ap:(x:Int)≤4294967295:=by omega
    obtain⟨r,y,bu⟩:∃ r:Nat,r=x%2∧r≤1:=⟨x%2,rfl,by omega⟩;rw[← y] at hand;have X:=hi9 y;have A:=hi9 W;have E:=hi9 L;have ao:0<x:=by omega
    clear y W L am U;by_cases h1:r=1
    ·subst h1;have HF:Hid _:=q02 Z.out E.out (by rw[← A.out];exact X.out.symm) hk;have an:Hid (∀ k',gW (val l) k'→gW (val l) k'):=fun _ h=>h;generalize 32*i+k=n at *;go_wp2_with fail;go_ret;exact⟨n,rfl,HF.out,I⟩
    ·obtain rfl:r=0:=by omega
     obtain⟨u,hu,bv⟩:∃ u:Nat,u=x/2∧(x:Int)/2=u:=⟨x/2,rfl,by omega⟩;have bz:u<x:=by omega
     have N:k+1≤31:=by
      rcases bg k 31 with h|h
      ·omega
      ·exfalso;have e:k=31:=by omega
       have h3:=A.out;have h4:=X.out;subst e;have:d/2^31<2:=by rw[aX dT];omega
       omega
     have h5:d%2^(k+1)=0:=by
      rw[bF,Nat.mod_mul,E.out,← A.out,← X.out,bm]
     have h6:u=d/2^(k+1):=by
      rw[hu,A.out,bL,← bF]
     have H5:=hi9 h5;have H6:=hi9 h6;have al:u≠0:=by have:=X.out;omega
     clear hu h5 h6;have hn:((32*i+k:Nat):Int)+1=((32*i+(k+1):Nat):Int):=by omega
     have Y:=hi9 hn;clear hn;generalize hN:32*i+k=n at *;clear hN;go_wp2_with fail
     go_roundw
     case rel=>exact⟨k+1,u,N,by rw[← Y.out],by rfl,H6.out,H5.out,al,I⟩
     case measure=>simp only[intOf];omega
/-- At b, o lies the Int s, and it may be written. -/
def IntIs (w:World) (b o:Nat) (s:Int):Prop:=∃ n v a,jT w b o n v∧Num w v a∧sg n a=s∧(n=true→a≠0)
/-- Of block b all but the Int at o has stood still. -/
def Kept (b o:Nat) (w A:World):Prop:=(∀ i,i≠o→i≠o+1→A.cell? ⟨b,i,none⟩=w.cell? ⟨b,i,none⟩)∧∀ i,A.frozen? ⟨b,i,none⟩=w.frozen? ⟨b,i,none⟩
theorem oO {w:World} {b o:Nat} {l:List Nat} {p:Addr} {u u':Value} (h:Row w b o l) (A:w.cell? p=some u) (hu:∀ z,u≠ .int .u32 z):Row (w.setCell p u') b o l:=fun i hi=>by
 have h1:=h i hi;rw[World.cell?_setCell_other _ _ _ _ (by intro e;rw[e,h1] at A;exact hu _ (bp A).symm)];exact h1
theorem num_other {w:World} {v:Value} {n:Nat} {p:Addr} {u u':Value} (h:Num w v n) (B:w.cell? p=some u) (hu:∀ z,u≠ .int .u32 z):Num (w.setCell p u') v n:=by
 obtain⟨l,⟨h1,h2⟩,h3⟩:=h;refine⟨l,⟨h1,?_⟩,h3⟩;rcases h2 with h2|⟨b,o,c,e,A,hb,C⟩
 ·exact Or.inl h2
 ·exact Or.inr ⟨b,o,c,e,A,by simpa [World.setCell] using hb,oO C B hu⟩
theorem gj {w:World} {v:Value} {n:Nat} (h:Num w v n):∀ k z,v≠ .int k z:=by
 obtain⟨l,A,-⟩:=h;obtain⟨a,c,rfl,-⟩:=ei A;intro k z h;cases h
theorem gI (w:World) (b o:Nat) (neg:Bool) (W:Int) (va:Value) (a:Nat) (U:IntIs w b o W) (R:Num w va a):
  Calls Tryz.prog 113 #[.pointer (some ⟨b,o,none⟩),.bool neg,va] w fun e F=>
   e= .returned (.pointer (some ⟨b,o,none⟩))∧GX b w F∧Kept b o w F∧IntIs F b o (sg neg a):=by
 obtain⟨n0,v0,a0,C,N,-,-⟩:=U;have I:=R;obtain⟨l,S,K,E⟩:=I;refine(q1r w b o n0 neg v0 va l C S).mono ?_;rintro e F ⟨rfl,rfl⟩;obtain⟨c1,O,f1,f2⟩:=C;have D:(⟨b,o,none⟩:Addr)≠⟨b,o+1,none⟩:=by intro h;injection h with _ h;omega
 have L:=num_other R (u':=va) O (fun z=>gj N _ z);have B:(w.setCell ⟨b,o+1,none⟩ va).cell? ⟨b,o,none⟩=some (.bool n0):=by
  rw[World.cell?_setCell_other _ _ _ _ (by intro h;exact D h.symm)];exact c1
 have M:=num_other L (u':= .bool (neg&& !l.isEmpty)) B (fun z h=>by cases h);have A:l.isEmpty=true↔a=0:=by
  rw[← E,eX K,List.isEmpty_iff]
 refine⟨rfl,(GX.set (GX.set (GX.of (af w)) va) _),⟨fun i h1 h2=> ?_,fun i=>by rw[World.frozen?_setCell,World.frozen?_setCell]⟩,neg&& !l.isEmpty,va,a,⟨?_,?_,?_,?_⟩,M,?_,?_⟩
 ·rw[World.cell?_setCell_other _ _ _ _ (by intro h;injection h with _ h;omega),World.cell?_setCell_other _ _ _ _ (by intro h;injection h with _ h;omega)]
 ·exact World.cell?_setCell_same _ _ _ B
 ·rw[World.cell?_setCell_other _ _ _ _ D];exact World.cell?_setCell_same _ _ _ O
 ·rw[World.frozen?_setCell,World.frozen?_setCell];exact f1
 ·rw[World.frozen?_setCell,World.frozen?_setCell];exact f2
 ·unfold sg;cases hb:l.isEmpty
  ·simp
  ·have:=A.1 hb;subst this;simp
 ·intro h J;have:=A.2 J;rw[this] at h;simp at h
end Go.Proofs.YtfnkkkcojnffdaaGreatDoor
