/- What is proved here: contracts of the library's decimal texts of words of 64 bits, over this seat's translation.
What is proved here: plain facts on decimal digits (no program): a number cut into lots of digits. -/
import Derived.Test.YtfnkkkcojnffdaaGreatDoorC1
import Derived.Test.YtfnkkkcojnffdaaGreatDoorC8
import Derived.Test.YtfnkkkcojnffdaaGreatDoorC3
import Derived.Test.YtfnkkkcojnffdaaGreatDoorC32
import Derived.Lib.Walk
import Derived.Lib.ItoaMem
import Derived.BigCall
import Derived.BigGuard
namespace Go.Proofs.YtfnkkkcojnffdaaGreatDoor.EN
open Go.ChangeShapes Go.WideShapes Go.ChangeAt Go.RowKit Go.Sort
/-- The library's table of powers of ten lies where it was laid. -/
def P10 (w:World):Prop:=4<w.heap.size∧Lib.TabIs Tryz.prog w "internal/strconv.uint64pow10" .u64 Lib.pow10Tab
theorem p10_at:Tryz.prog.globalNamed "internal/strconv.uint64pow10" =some 4:=by kernel_rfl
theorem P10.G {w A:World} (h:P10 w) (g:G w A):P10 A:=by
 obtain⟨h1,h2⟩:=h;obtain⟨-,-,-,g4,g5⟩:=id g;refine⟨ad h1 g.size,?_⟩;unfold Lib.TabIs World.var? at *;rw[p10_at] at h2 ⊢;simp only[Option.bind_some] at h2 ⊢;rw[g5 _ h1];exact h2
theorem oR {w:World} (h:P10 w) (o:Obj):Lib.TabIs Tryz.prog (w.alloc o) "internal/strconv.uint64pow10" .u64 Lib.pow10Tab:=Lib.tabIs_alloc h.2 o
theorem holds_zero0 (w:World) (T:TypeId) (A:Nat) (D:A≤24):Holds (fun (b:UInt8)=>Value.int .u8 (b.toNat:Int)) (w.alloc (.cells Lib.zeros24 T)) w.heap.size 0 (Array.replicate A (0:UInt8)):=fun j B=>by
 have C:j<A:=by simpa using B
 refine⟨?_,World.frozen?_alloc_new _ _ _ _⟩;rw[World.cell?_alloc_new,Lib.zeros24_at _ dT,getElem!_pos _ j B];simp
theorem q1s (w:World) (os:Array Obj):G w (grow w os):=⟨rfl,rfl,rfl,by simp [grow],fun k A=>by simp [grow,Array.getElem?_append,A]⟩
theorem pL (w:World) (o:Obj) (A:Array UInt8) (k:Nat):G w ((putRow (fun (b:UInt8)=>Value.int .u8 (b.toNat:Int)) (w.alloc o) w.heap.size 0 A).drewN k):=by
 obtain⟨B,_,e⟩:=putRow_grow_new (fun (b:UInt8)=>Value.int .u8 (b.toNat:Int)) w #[o] w.heap.size 0 A (ay _);rw[alloc_eq_grow,e];exact G.drewN (q1s _ _) k
set_option maxHeartbeats 1600000 in
set_option maxRecDepth 100000 in
theorem q0p (w:World) (u:Nat) (A:u<18446744073709551616) (S:P10 w):Calls Tryz.prog 105 #[.int .u64 (u:Int),.int .i64 10] w fun e J=>e= .returned (.string ⟨(Lib.decDigits u).toArray⟩)∧G w J:=by
 rcases bg u 100 with B|B
 ·exact q19 w u B
 have U:Hid (Calls Tryz.prog 161 #[.int .u64 (u:Int),.int .i64 10] w fun e J=>e= .returned (.string ⟨(Lib.decDigits u).toArray⟩)∧G w J):=by
  have I:1≤u:=by omega
  have R:Lib.nDigits u≤20:=by have:=Lib.numDigits_eq u I A;split at this<;>omega
  have F:Tryz.prog.arrayLen 192=24:=by kernel_rfl
  have c:∀ W,(Instr.sliceAt 192 (.pointer (some ⟨w.heap.size,0,none⟩)) none (some (.int .i64 (Lib.nDigits u:Int))) none).run Tryz.prog W= .ok (.slice (some ⟨w.heap.size,0,none⟩) (Lib.nDigits u) 24) W:=fun W=>by
   rw[run_sliceAt_array_h W 192 ⟨w.heap.size,0,none⟩ dV .i64 (Lib.nDigits u:Int) dT (by rw[F];omega)];go_simp
  have D:=holds_zero0 w 192 (Lib.nDigits u) dT;have C:=Tryz.internal_strconv_formatBase10 w.heap.size 0 24 u (Array.replicate (Lib.nDigits u) 0) (w.alloc (.cells Lib.zeros24 192)) D (by rw[Array.size_replicate];exact Lib.lt_pow_nDigits u) A (by rw[Array.size_replicate];omega);rw[Array.size_replicate] at C;have K:=hi9 C;have M:=hi9 (Tryz.internal_strconv_numDigits u I A (w.alloc (.cells Lib.zeros24 192)) (oR S _));have L:=Lib.hid D;have d:decide ((u:Int)<100)=false:=decide_eq_false dT;have Z:decide (u<100)=false:=decide_eq_false dT;clear D F C;go_enter Tryz.func161,Tryz.ntmps161;go_wp2_with fail;refine Calls.mono (P:=Tryz.prog) M.out ?_;rintro e J ⟨rfl,rfl⟩;go_wp2_with fail;refine Calls.mono (P:=Tryz.prog) K.out ?_;rintro e J ⟨rfl,k,i,E,rfl,N⟩;have Y:(convert 128 9 (.slice (some ⟨w.heap.size,0,none⟩) (Lib.nDigits u) 24)).run Tryz.prog ((putRow (fun (b:UInt8)=>Value.int .u8 (b.toNat:Int)) (w.alloc (.cells Lib.zeros24 192)) w.heap.size 0 E).drewN k)= .ok (.string ⟨(Lib.decDigits u).toArray⟩) ((putRow (fun (b:UInt8)=>Value.int .u8 (b.toNat:Int)) (w.alloc (.cells Lib.zeros24 192)) w.heap.size 0 E).drewN k):=by
   have h:=run_convert_bytes_back (P:=Tryz.prog) ((putRow (fun (b:UInt8)=>Value.int .u8 (b.toNat:Int)) (w.alloc (.cells Lib.zeros24 192)) w.heap.size 0 E).drewN k) 128 9 5 ⟨w.heap.size,0,none⟩ 24 (Lib.decDigits u) dV dV dV (fun j O=>by
    rw[Lib.row_is_numeral N j O,Lib.add_plain,World.cell?_drewN];exact cell?_putRow (fun (b:UInt8)=>Value.int .u8 (b.toNat:Int)) _ w.heap.size 0 _ E L.out (by rw[N.size,Array.size_replicate]) j (by rw[N.size];rw[Lib.decDigits_length] at O;exact O))
   rw[Lib.decDigits_length] at h;exact h
  have X:=hi9 (pL w (.cells Lib.zeros24 192) E k);go_wp2_with fail;go_ret;exact⟨rfl,X.out⟩
 clear A S B;go_enter Tryz.func105,Tryz.ntmps105;go_wp2_with fail;refine Calls.mono (P:=Tryz.prog) U.out ?_;rintro e m ⟨rfl,g⟩;go_wp2_with fail;go_ret;exact⟨rfl,g⟩
end Go.Proofs.YtfnkkkcojnffdaaGreatDoor.EN
namespace Go.Proofs.YtfnkkkcojnffdaaGreatDoor.EN
open Go.RowKit
/-- The last k digits of a number. -/
def digs:Nat→Nat→List UInt8
 |0,_=>[]
 |k+1,w=>digs k (w/10)++[UInt8.ofNat (48+w%10)]
theorem oz:∀ k,digs k 0=List.replicate k 48:=by
 intro k
 induction k with
 |zero=>rfl
 |succ k A=>rw[digs,Nat.zero_div,A,List.replicate_succ'];rfl
theorem q0e {q:Nat} (D:0<q):∀ (k w:Nat),w<10^k→Lib.decDigits (q*10^k+w)=Lib.decDigits q++digs k w:=by
 intro k
 induction k with
 |zero=>intro w h;have:w=0:=by simpa using h
        subst this;simp [digs]
 |succ k E=>
  intro w h;have A:0<10^k:=Nat.pow_pos dT;have B:(q*10^(k+1)+w)/10=q*10^k+w/10:=by
   rw[bF,← aj,bt,dz _ _ dT,bt]
  have C:(q*10^(k+1)+w)%10=w%10:=by
   rw[bF,← aj,bt,dd]
  have h1:1≤q*10^k:=bT D A;have h2:¬ q*10^(k+1)+w<10:=by rw[bF,← aj];omega
  rw[Lib.decDigits,dif_neg h2,B,C,E (w/10) (by rw[bF] at h;omega),digs,cM]
theorem l6:∀ (k w:Nat),1≤k→w<10^k→digs k w=List.replicate (k-(Lib.decDigits w).length) 48++Lib.decDigits w:=by
 intro k
 induction k with
 |zero=>intro w h;omega
 |succ k E=>
  intro w _ h;rcases bg w 10 with A|A
  ·rw[digs,aN A,aM A,oz,Lib.decDigits_one A];simp
  ·have D:1≤k:=by
    rcases bK k with rfl|B
    ·simp at h;omega
    ·exact B
   have C:¬ w<10:=by omega
   rw[digs,E (w/10) D (by rw[bF] at h;omega)];have e:Lib.decDigits w=Lib.decDigits (w/10)++[UInt8.ofNat (48+w%10)]:=by rw[Lib.decDigits,dif_neg C]
   rw[e,ag,cZ,cM]
   congr 2
   omega
theorem dec_len_le {w k:Nat} (A:1≤k) (h:w<10^k):(Lib.decDigits w).length≤k:=by
 have h1:=congrArg List.length (l6 k w A h);have h2:∀ (k w:Nat),(digs k w).length=k:=by
  intro k
  induction k with
  |zero=>intro w;rfl
  |succ k B=>intro w;rw[digs,ag,B];rfl
 rw[h2,ag] at h1;omega
theorem dec_ne (w:Nat):Lib.decDigits w≠[]:=by
 rw[Lib.decDigits];split
 ·simp
 ·simp
/-- A number in lots of 19 digits, the least first. -/
def lots:List Nat→Nat
 |[]=>0
 |w::l=>w+10000000000000000000*lots l
theorem iL:∀ (l:List Nat) (w:Nat),lots (l++[w])=lots l+10000000000000000000^l.length*w:=by
 intro l
 induction l with
 |nil=>intro w;simp [lots]
 |cons x l A=>intro w;rw[List.cons_append,lots,A,lots,aK,bF,ax,bR,← aj,aF (10000000000000000000^l.length)]
/-- The text of all lots but those of the first i. -/
theorem oJ (l:List Nat) (i:Nat) (w:Nat) (hi:l[i]? =some w) (B:w<10000000000000000000) (C:0<lots (l.drop (i+1))):
  Lib.decDigits (lots (l.drop i))=Lib.decDigits (lots (l.drop (i+1)))++List.replicate (19-(Lib.decDigits w).length) 48++Lib.decDigits w:=by
 have A:=(aQ.1 hi).1;have e:l.drop i=w::l.drop (i+1):=by
  rw[dN A];rw[(aQ.1 hi).2]
 rw[e,lots,bt,aF];have h:=q0e C 19 w (by simpa using B);rw[l6 19 w dT (by simpa using B),← cM] at h;simpa using h
end Go.Proofs.YtfnkkkcojnffdaaGreatDoor.EN
