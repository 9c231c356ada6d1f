/- What is proved here: contracts of the reference's big numbers: Sign, BitLen, Cmp, Bit, QuoRem, Rsh of Int, over this seat's translation.
What is proved here: how two whole numbers compare (no program), over this seat's translation.
What is proved here: contracts of the reference's big numbers: QuoRem, Rsh, Uint64 of Int, what a writing method leaves standing, over this seat's translation.
What is proved here: contracts of the reference's big numbers: TrailingZeroBits of Int, new Ints step by step, over this seat's translation.
What is proved here: the reference's nearest number, its arithmetic (no program).
What is proved here: contracts of the reference's big numbers: Neg of Int, the smallest methods of Rat, over this seat's translation.
What is proved here: contracts of the reference's big numbers: Sub of Int, over this seat's translation. -/
import Derived.Test.YtohcneeihdkfgaaGreatDoorQ1
import Derived.Test.YtohcneeihdkfgaaGreatDoorQ10
import Derived.Test.YtohcneeihdkfgaaGreatDoorQ3
import Derived.Test.YtohcneeihdkfgaaGreatDoorQ29
import Derived.Test.YtohcneeihdkfgaaGreatDoorQ18
import Derived.Test.YtohcneeihdkfgaaGreatDoorQ8
import Derived.Test.YtohcneeihdkfgaaGreatDoorQ6
namespace Go.Proofs.YtohcneeihdkfgaaGreatDoor
open Go.ChangeShapes Go.WideShapes Go.ChangeAt Go.RowKit
open BN
theorem q0R (w:World) (b o:Nat) (s:Int) (F:IntIs w b o s):
  Calls Tryz.prog 86 #[.pointer (some ⟨b,o,none⟩)] w fun e I=>e= .returned (.int .i64 s.sign)∧G w I:=by
 obtain⟨n,v,a,⟨c1,J,-,-⟩,⟨l,E,D,hv⟩,h1,h2⟩:=F;obtain⟨p,c,rfl,-,-⟩:=fF E;have C:a=0↔l.length=0:=by rw[← hv,ie D,List.length_eq_zero_iff]
 generalize l.length=j at *;have B:s.sign=if j=0 then 0 else if n then -1 else 1:=by
  rw[← h1];unfold sg;by_cases A:j=0
  ·rw[if_pos A,C.2 A];simp
  ·rw[if_neg A];have K:a≠0:=fun h=>A (C.1 h);cases n
   ·simp;omega
   ·simp;omega
 rw[B];clear B E D hv h1 h2 C;by_cases A:j=0
 ·subst A;go_enter Tryz.func86,Tryz.ntmps86;go_wp2_with fail;go_ret;exact⟨rfl,ad _⟩
 ·rw[if_neg A];have t0:((j:Int)==0)=false:=by simp;omega
  cases n
  all_goals
   go_enter Tryz.func86,Tryz.ntmps86;go_wp2_with fail;go_ret;exact⟨rfl,ad _⟩
theorem kJ (w:World) (b o:Nat) (s:Int) (K:Nat) (E:K≤1000000) (B:s.natAbs<2^(32*K)) (F:IntIs w b o s):
  Calls Tryz.prog 300 #[.pointer (some ⟨b,o,none⟩)] w fun e I=>e= .returned (.int .i64 (blen s.natAbs))∧G w I:=by
 obtain⟨n,v,a,⟨c1,J,-,-⟩,hv,h1,h2⟩:=F;have C:=gp h1;rw[← C] at B ⊢;have D:=hi9 (nq w v a K E hv B);clear C h1 h2 hv B;go_enter Tryz.func300,Tryz.ntmps300;go_wp2_with fail;refine Calls.mono (P:=Tryz.prog) D.out ?_;rintro e L ⟨rfl,A⟩;go_wp2_with fail;go_ret;exact⟨rfl,A⟩
theorem G.lt {w A:World} {b:Nat} (g:G w A) (h:b<w.heap.size):b<A.heap.size:=aj h g.size
theorem de:type_of% @G.lt:= @G.lt
def cmpI (x y:Int):Int:=if x<y then -1 else if x=y then 0 else 1
theorem q2m {n:Bool} {a b:Nat}:cmpI (sg n a) (sg n b)=if n then -(cmpV a b) else cmpV a b:=by
 unfold cmpI cmpV sg;cases n
 ·simp only[ax,if_false];by_cases h1:a<b
  ·rw[if_pos eX,if_pos h1]
  ·rw[if_neg eX,if_neg h1];by_cases h2:a=b
   ·rw[if_pos eX,if_pos h2]
   ·rw[if_neg eX,if_neg h2]
 ·simp only[if_true];by_cases h1:a<b
  ·rw[if_neg eX,if_neg eX,if_pos h1];rfl
  ·rw[if_neg h1];by_cases h2:a=b
   ·rw[if_neg eX,if_pos eX,if_pos h2];rfl
   ·rw[if_pos eX,if_neg h2]
theorem mT (w:World) (bx M F R:Nat) (sx S:Int) (K:Nat) (X:K≤1000000) (s:sx.natAbs<2^(32*K)) (y:S.natAbs<2^(32*K)) (J:bx<w.heap.size) (d:F<w.heap.size)
  (hx:IntIs w bx M sx) (hy:IntIs w F R S):
  Calls Tryz.prog 88 #[.pointer (some ⟨bx,M,none⟩),.pointer (some ⟨F,R,none⟩)] w fun e w'=>e= .returned (.int .i64 (cmpI sx S))∧G w w':=by
 obtain⟨n,v,a,⟨c1,c2,-,-⟩,hv,h1,h3⟩:=hx;obtain⟨n',v',U,⟨c3,c4,-,-⟩,O,h2,h4⟩:=hy;have ha:=gp h1;have Z:=gp h2;have HW:Hid (∀ E,G w E→_):=fun E g=>jx E v v' a U K eX (hv.G g) (O.G g) eX eX;by_cases hn:n=n'
 ·subst hn;have Y:Hid (cmpI sx S=if n then -(cmpV a U) else cmpV a U):=by show cmpI sx S=_;rw[← h1,← h2];exact q2m
  have bn: -1≤cmpV a U:=by unfold cmpV;split<;>(try split)<;>omega
  have bq:cmpV a U≤1:=by unfold cmpV;split<;>(try split)<;>omega
  have t0:(n==n)=true:=by simp
  generalize cmpV a U=cv at *;rw[Y.out];clear s y hv O h1 h2 ha Z h3 h4 Y;cases n
  all_goals
   go_enter Tryz.func88,Tryz.ntmps88;go_wp2_with fail;refine fq eZ eZ ?_;intro W hW;have j:=iP (w:=W) ⟨bx,M,none⟩ (.bool _);have k:=iP (w:=W) ⟨F,R,none⟩ (.bool _);clear hW
   repeat (go_big_quiet_step (fail))
   refine wpQuiet_nil ?_;clear j k;intro E D;have L:=D;have d1:=D.cell (p:=⟨bx,M,none⟩) J c1;have d2:=D.cell (p:=⟨bx,M+1,none⟩) J c2;have d3:=D.cell (p:=⟨F,R+1,none⟩) d c4;go_wp2_with fail;clear c1 c2 c3 c4 D;have c:bx<E.heap.size:=de L J;have ag:F<E.heap.size:=de L d;have af:Hid (∀ w2,G E w2→_):=fun w2 g=>HW.out w2 (ab L g);refine gL 9 (G E) eZ (by first|exact(ad _).drew|exact G.drew mB) ?_;intro I;have C:Hid (∀ B,G E B→B.cell? ⟨bx,M+1,none⟩=some (v)∧B.cell? ⟨F,R+1,none⟩=some (v')):=fun B A=>⟨l5 ⟨bx,M+1,none⟩ v A,l5 ⟨F,R+1,none⟩ v' A⟩;refine eY 0 (v:= ?_) rfl eZ (fun _ _ _ h=>h) rfl ?_ ‹_› ?_;rotate_left
   ·intro B A;obtain⟨bs,bu⟩:=C.out B A;exact gj
   try simp only[aput,List.set]
   refine eY 1 (v:= ?_) rfl eZ (fun _ _ _ h=>h) rfl ?_ ‹_› ?_;rotate_left
   ·intro B A;obtain⟨bv,bw⟩:=C.out B A;exact gj
   try simp only[aput,List.set]
   refine eY 2 (v:= ?_) rfl eZ (fun _ _ _ h=>h) rfl ?_ ‹_› ?_;rotate_left
   ·intro B A;obtain⟨bz,ca⟩:=C.out B A;exact gj
   try simp only[aput,List.set]
   refine eY 3 (v:= ?_) rfl eZ (fun _ _ _ h=>h) rfl ?_ ‹_› ?_;rotate_left
   ·intro B A;obtain⟨cb,cc⟩:=C.out B A;exact gj
   try simp only[aput,List.set]
   refine eY 4 (v:= ?_) rfl eZ (fun _ _ _ h=>h) rfl ?_ ‹_› ?_;rotate_left
   ·intro B A;obtain⟨ai,al⟩:=C.out B A;exact gj
   try simp only[aput,List.set]
   refine eY 5 (v:= ?_) rfl eZ (fun _ _ _ h=>h) rfl ?_ ‹_› ?_;rotate_left
   ·intro B A;obtain⟨am,an⟩:=C.out B A;exact gj
   try simp only[aput,List.set]
   refine eY 6 (v:= ?_) rfl eZ (fun _ _ _ h=>h) rfl ?_ ‹_› ?_;rotate_left
   ·intro B A;obtain⟨ap,bi⟩:=C.out B A;exact gj
   try simp only[aput,List.set]
   refine eY 7 (v:= ?_) rfl eZ (fun _ _ _ h=>h) rfl ?_ ‹_› ?_;rotate_left
   ·intro B A;obtain⟨bl,bm⟩:=C.out B A;exact gj
   try simp only[aput,List.set]
   clear C;refine fc (i:=8) eZ rfl ?_;intro K X;go_simp;go_wp2_with (go_at_call 170;refine Calls.mono (P:=Tryz.prog) (af.out _ I) ?_;rintro e w2 ⟨rfl,N⟩);refine X.out _ _ (Or.inr (ab I N)) ?_;clear X K;refine fc (i:=9) eZ rfl ?_;intro K X;go_simp;refine X.out _ _ (Or.inl fk) ?_;clear X K;refine fS eZ ?_ _;have e1:=(ab I N).cell c d1;go_wp2_with fail;go_ret;exact⟨rfl,ab L (ab I N)⟩
 ·have t0:(n==n')=false:=by simp [hn]
  obtain rfl:n'= !n:=by cases n<;>cases n'<;>simp_all
  have Y:Hid (cmpI sx S=if n then -1 else 1):=by
   show cmpI sx S=_;rw[← h1,← h2];unfold cmpI sg;cases n
   ·have:=h4 rfl;simp only[ax,if_false,dX,if_true];rw[if_neg eX,if_neg eX]
   ·have:=h3 rfl;simp only[dv,ax,if_false,if_true];rw[if_pos eX]
  rw[Y.out];clear s y hv O h1 h2 ha Z h3 h4 Y HW;cases n
  all_goals
   go_enter Tryz.func88,Tryz.ntmps88;go_wp2_with fail;refine fq eZ eZ ?_;intro W hW;have m:=iP (w:=W) ⟨bx,M,none⟩ (.bool _);have o:=iP (w:=W) ⟨F,R,none⟩ (.bool _);clear hW
   repeat (go_big_quiet_step (fail))
   refine wpQuiet_nil ?_;clear m o;intro E D;have d1:=D.cell (p:=⟨bx,M,none⟩) J c1;go_wp2_with fail;go_ret;exact⟨rfl,D⟩
theorem q5s (w:World) (va:Value) (a i K:Nat) (hK:K≤1000000) (hi:i≤40000000) (Y:Num w va a) (B:a<2^(32*K)):
  Calls Tryz.prog 191 #[va,.int .i64 (i:Int)] w fun e w'=>e= .returned (.int .u64 ((a/2^i%2:Nat):Int))∧G w w':=by
 obtain⟨l,M,C,rfl⟩:=Y;have I:=fg C B;have A:=M.1;obtain⟨pa,ca,rfl,c,E⟩:=fF M;have d:(i:Int)/32=((i/32:Nat):Int):=by omega
 have k:(i:Int)%32=((i%32:Nat):Int):=by omega
 have D:i=32*(i/32)+i%32:=by omega
 have F:=iD A (i/32);have O:val l/2^i%2=l.getD (i/32) 0/2^(i%32)%2:=by
  have e:val l/2^i=val (l.drop (i/32))/2^(i%32):=by
   rw[F,bR,← ah,← D]
  rw[e];by_cases h:i/32<l.length
  ·rw[fD h];show (l.getD (i/32) 0+2^32*val (l.drop (i/32+1)))/2^(i%32)%2=_;have h2:2^32*val (l.drop (i/32+1))=2^(i%32)*(2*(2^(31-i%32)*val (l.drop (i/32+1)))):=by
    rw[← ar 2,← dT,← ar,← ah,show i%32+(31-i%32+1)=32 from by omega]
   rw[h2,cZ _ _ (ae _),dh]
  ·rw[aR eX,ak,bo eX];simp [val]
 rw[O];have hs:((i%32:Nat):Int)≤31:=by omega
 have m:(i:Int)≤40000000:=by omega
 have ag:IntKind.u64.wrap (i:Int)=i:=by rw[IntKind.wrap_u64];omega
 have R:=ff A (i/32);generalize S:i/32=q at *;generalize L:i%32=s at *;have hand:=fun x (h:x<2^32)=>and_one x h;by_cases J:q<l.length
 ·obtain⟨b1,o1,rfl,X,Z⟩:=E q J;have h3:l.getD q 0/2^s<2^32:=aD (aX _ _) R;have h4:=and_one _ h3;have ai:((l.getD q 0:Nat):Int)≤4294967295:=by omega
  generalize N:l.length=j at *;generalize l.getD q 0=x at *;have h5:(x:Int)/2^s=((x/2^s:Nat):Int):=by push_cast;rfl
  have h6:((x/2^s:Nat):Int)≤4294967295:=by omega
  generalize x/2^s=y at *;have h7:((y%2:Nat):Int)≤1:=by omega
  have h8:bits .and .u64 (y:Int) 1=((y%2:Nat):Int):=by
   have:=u64_and_nat y 1 eX eX;rw[Nat.and_one_is_mod] at this;exact this
  generalize y%2=z at *;have t0:decide (j≤q)=false:=by simp;omega
  have t1:decide ((i:Int)<0)=false:=by simp
  have o:(j:Int)≤1000000:=by omega
  have af:(q:Int)≤1250000:=by omega
  have U:(q:Int)<j:=by omega
  clear O F D R h3 C M A I B E hand S L N;go_enter Tryz.func191,Tryz.ntmps191;go_wp2_with fail;go_ret;exact⟨rfl,ad _⟩
 ·have W:l.getD q 0=0:=by rw[ak,bo eX];rfl
  rw[W];generalize N:l.length=j at *;have t0:decide (j≤q)=true:=by simp;omega
  have t1:decide ((i:Int)<0)=false:=by simp
  clear O F D R C M A I B E hand S L N W J;go_enter Tryz.func191,Tryz.ntmps191;go_wp2_with fail;go_ret;exact⟨by simp,ad _⟩
theorem q5K (w:World) (b o i:Nat) (s:Int) (K:Nat) (E:K≤1000000) (hi:i≤40000000) (B:s.natAbs<2^(32*K)) (M:0≤s) (I:IntIs w b o s):
  Calls Tryz.prog 301 #[.pointer (some ⟨b,o,none⟩),.int .i64 (i:Int)] w fun e J=>e= .returned (.int .u64 ((s.natAbs/2^i%2:Nat):Int))∧G w J:=by
 obtain⟨n,v,a,⟨c1,L,-,-⟩,hv,h1,h2⟩:=I;have C:=gp h1;have F:n=false:=by
  cases n
  ·rfl
  ·have:=h2 rfl;unfold sg at h1;simp at h1;omega
 subst F;rw[← C] at B ⊢;have D:=hi9 (q5s w v a i K E hi hv B);have t1:decide ((i:Int)<0)=false:=by simp
 generalize a/2^i%2=z at *;clear C h1 h2 hv B hi;go_enter Tryz.func301,Tryz.ntmps301;go_wp2_with fail;refine Calls.mono (P:=Tryz.prog) D.out ?_;rintro e N ⟨rfl,A⟩;go_wp2_with fail;go_ret;exact⟨rfl,A⟩
end Go.Proofs.YtohcneeihdkfgaaGreatDoor
namespace Go.Proofs.YtohcneeihdkfgaaGreatDoor
theorem pA {a b:Int}:cmpI a b=(a-b).sign:=by
 unfold cmpI;split
 ·rw[dd eX]
 ·split
  ·rw[show a-b=0 from by omega];rfl
  ·rw[bg eX]
theorem q2l {a b:Int} {k:Nat} (A:0<k):cmpI (a*(k:Int)) (b*(k:Int))=cmpI a b:=by
 rw[pA,pA,← cO,dZ,bg (show (0:Int)<k by omega),cU]
end Go.Proofs.YtohcneeihdkfgaaGreatDoor
namespace Go.Proofs.YtohcneeihdkfgaaGreatDoor
open Go.ChangeShapes Go.WideShapes Go.ChangeAt Go.RowKit
open BN
/-- What a writing method leaves of a cell that it doesn't write. -/
theorem SetTo.cell {w E:World} {b o:Nat} {s:Int} {e:Ending} (h:SetTo w b o s e E) {p:Addr} {v:Value} (F:p.block<w.heap.size) (D:p.spot=none) (hv:w.cell? p=some v) (A:p.block≠b∨(p.off≠o∧p.off≠o+1)):E.cell? p=some v:=by
 obtain⟨-,h1,h2,-⟩:=h;by_cases hb:p.block=b
 ·obtain⟨I,C,J⟩:=p;simp only at hb D A;subst hb D;have B:C≠o∧C≠o+1:=by rcases A with A|A;exact absurd rfl A;exact A
  rw[h2.1 C B.1 B.2];exact hv
 ·rw[← hv];exact World.cell?_of_block (h1.block p.block F (fun e=>hb (ct e)))
theorem SetTo.frozen {w B:World} {b o:Nat} {s:Int} {e:Ending} (h:SetTo w b o s e B) {p:Addr} {v:Bool} (C:p.block<w.heap.size) (A:p.spot=none) (hv:w.frozen? p=v):B.frozen? p=v:=by
 obtain⟨-,h1,h2,-⟩:=h;by_cases hb:p.block=b
 ·obtain⟨E,D,F⟩:=p;simp only at hb A;subst hb A;rw[h2.2 D];exact hv
 ·rw[← hv];exact World.frozen?_of_block (h1.block p.block C (fun e=>hb (ct e)))
theorem SetTo.size {w A:World} {b o:Nat} {s:Int} {e:Ending} (h:SetTo w b o s e A):w.heap.size≤A.heap.size:=h.2.1.size
theorem SetTo.is {w A:World} {b o:Nat} {s:Int} {e:Ending} (h:SetTo w b o s e A):IntIs A b o s:=h.2.2.2
theorem SetTo.num {w I:World} {b o:Nat} {R s:Int} {e:Ending} (O:IntIs w b o R) (h:SetTo w b o s e I) {v:Value} {n:Nat} (M:Num w v n):Num I v n:=by
 obtain⟨n0,v0,a0,⟨c1,J,-,-⟩,E,-,-⟩:=O;obtain⟨l,⟨h1,h2⟩,h3⟩:=M;refine⟨l,⟨h1,?_⟩,h3⟩;rcases h2 with h2|⟨D,F,c,K,L,hb,N⟩
 ·exact Or.inl h2
 ·refine Or.inr ⟨D,F,c,K,L,aj hb h.size,fun i hi=> ?_⟩;have A:=N i hi;refine h.cell (p:=⟨D,F+i,none⟩) hb rfl A ?_;by_cases B:D=b
  ·refine Or.inr ⟨fun C=> ?_,fun C=> ?_⟩
   ·simp only at C;subst B;rw[C,c1] at A;cases A
   ·simp only at C;subst B;rw[C,J] at A;exact jk E _ _ (ct A)
  ·exact Or.inl B
/-- Another Int stands still. -/
theorem SetTo.keep {w F:World} {b o C D:Nat} {L s E:Int} {e:Ending} (K:IntIs w b o L) (h:SetTo w b o s e F) (J:IntIs w C D E) (A:C<w.heap.size) (B:C≠b∨D+2≤o∨o+2≤D):IntIs F C D E:=by
 obtain⟨n,v,a,⟨c1,I,f1,f2⟩,hv,h1,h2⟩:=J;refine⟨n,v,a,⟨h.cell A rfl c1 ?_,h.cell A rfl I ?_,h.frozen A rfl f1,h.frozen A rfl f2⟩,h.num K hv,h1,h2⟩
 ·rcases B with h|h
  ·exact Or.inl h
  ·exact Or.inr ⟨by simp only;omega,by simp only;omega⟩
 ·rcases B with h|h
  ·exact Or.inl h
  ·exact Or.inr ⟨by simp only;omega,by simp only;omega⟩
/-- Behind it, nothing of an elder world has turned, where the block is newer. -/
theorem SetTo.fresh {w0 w A:World} {b o:Nat} {s:Int} {e:Ending} (g:G w0 w) (h:SetTo w b o s e A) (hb:w0.heap.size≤b):G w0 A:=GX.fresh g h.2.1 hb
/-- What QuoRem leaves behind. -/
def QR (w:World) (b o A B:Nat) (F sr:Int) (e:Ending) (I:World):Prop:=
 e= .returned (.tuple #[.pointer (some ⟨b,o,none⟩),.pointer (some ⟨A,B,none⟩)])∧∃ C D E,SetTo w b o F D C∧SetTo C A B sr E I
theorem q6s (n A:Bool) (a B:Nat):sg (!(n==A)) (a/B)=Int.tdiv (sg n a) (sg A B):=by
 unfold sg;cases n<;>cases A<;>simp [Int.tdiv_neg,Int.neg_tdiv]
theorem q6t (n B:Bool) (a A:Nat):sg n (a%A)=Int.tmod (sg n a) (sg B A):=by
 unfold sg;cases n<;>cases B<;>simp [Int.tmod_neg,Int.neg_tmod]<;>exact(dC eX).symm
theorem rq (w:World) (b o bx c M d N R:Nat) (s0 s3 sx S:Int) (K:Nat) (X:K≤300000) (cb:sx.natAbs<2^(32*K)) (cd:S.natAbs<2^(32*K)) (cc:S≠0) (hb:b<w.heap.size) (af:N<w.heap.size) (ag:bx<w.heap.size) (ai:M<w.heap.size)
  (hz:IntIs w b o s0) (hr:IntIs w N R s3) (an:N≠b∨R+2≤o∨o+2≤R) (hx:IntIs w bx c sx) (hy:IntIs w M d S):
  Calls Tryz.prog 174 #[.pointer (some ⟨b,o,none⟩),.pointer (some ⟨bx,c,none⟩),.pointer (some ⟨M,d,none⟩),.pointer (some ⟨N,R,none⟩)] w (QR w b o N R (Int.tdiv sx S) (Int.tmod sx S)):=by
 obtain⟨n,v,a,⟨c1,c2,-,-⟩,hv,h1,-⟩:=hx;obtain⟨n',v',y,⟨c3,c4,-,-⟩,bm,h2,-⟩:=hy;have ha:=gp h1;have ca:=gp h2;have HW:Hid (∀ I,G w I→_):=fun I g=>q0y I v v' a y K X (hv.G g) (bm.G g) eX eX eX;have HZ:=hi9 hz;have HR:=hi9 hr;have HS:Hid (sg (!(n==n')) (a/y)=Int.tdiv sx S):=by rw[q6s,h1,h2];exact rfl
 have bv:Hid (sg n (a%y)=Int.tmod sx S):=by rw[q6t n n',h1,h2];exact rfl
 have bs:=hi9 an;generalize a/y=dq at *;generalize a%y=dr at *;clear hz hr cb cd hv bm h1 h2 ha ca cc an;go_enter Tryz.func174,Tryz.ntmps174;go_wp2_with fail;refine fq eZ eZ ?_;intro W hW;have ap:=iP (w:=W) ⟨bx,c,none⟩ (.bool n);have bi:=iP (w:=W) ⟨M,d,none⟩ (.bool n');clear hW
 repeat (go_big_quiet_step (fail))
 refine wpQuiet_nil ?_;clear ap bi;intro I E;have d2:=E.cell (p:=⟨bx,c+1,none⟩) ag c2;have d4:=E.cell (p:=⟨M,d+1,none⟩) ai c4;have ce:bx<I.heap.size:=de E ag;have ci:M<I.heap.size:=de E ai;clear c1 c2 c3 c4;go_wp2_with fail;have bz:Hid (∀ U,G I U→_):=fun U g=>HW.out U (ab E g);refine gL 13 (G I) eZ (by first|exact(ad _).drew|exact G.drew mB) ?_;intro L;have C:Hid (∀ B,G I B→B.cell? ⟨bx,c+1,none⟩=some (v)∧B.cell? ⟨M,d+1,none⟩=some (v')):=fun B A=>⟨l5 ⟨bx,c+1,none⟩ v A,l5 ⟨M,d+1,none⟩ v' A⟩;refine eY 0 (v:= ?_) rfl eZ (fun _ _ _ h=>h) rfl ?_ ‹_› ?_;rotate_left
 ·intro B A;obtain⟨eb,ec⟩:=C.out B A;exact gj
 try simp only[aput,List.set]
 refine eY 1 (v:= ?_) rfl eZ (fun _ _ _ h=>h) rfl ?_ ‹_› ?_;rotate_left
 ·intro B A;obtain⟨ee,em⟩:=C.out B A;exact gj
 try simp only[aput,List.set]
 refine eY 2 (v:= ?_) rfl eZ (fun _ _ _ h=>h) rfl ?_ ‹_› ?_;rotate_left
 ·intro B A;obtain⟨ep,eu⟩:=C.out B A;exact gj
 try simp only[aput,List.set]
 refine eY 3 (v:= ?_) rfl eZ (fun _ _ _ h=>h) rfl ?_ ‹_› ?_;rotate_left
 ·intro B A;obtain⟨ez,fa⟩:=C.out B A;exact gj
 try simp only[aput,List.set]
 refine eY 4 (v:= ?_) rfl eZ (fun _ _ _ h=>h) rfl ?_ ‹_› ?_;rotate_left
 ·intro B A;obtain⟨cl,cr⟩:=C.out B A;exact gj
 try simp only[aput,List.set]
 refine eY 5 (v:= ?_) rfl eZ (fun _ _ _ h=>h) rfl ?_ ‹_› ?_;rotate_left
 ·intro B A;obtain⟨cs,cz⟩:=C.out B A;exact gj
 try simp only[aput,List.set]
 refine eY 6 (v:= ?_) rfl eZ (fun _ _ _ h=>h) rfl ?_ ‹_› ?_;rotate_left
 ·intro B A;obtain⟨di,dl⟩:=C.out B A;exact gj
 try simp only[aput,List.set]
 refine eY 7 (v:= ?_) rfl eZ (fun _ _ _ h=>h) rfl ?_ ‹_› ?_;rotate_left
 ·intro B A;obtain⟨ds,ea⟩:=C.out B A;exact gj
 try simp only[aput,List.set]
 clear C;refine fc (i:=8) eZ rfl ?_;intro K X;go_simp;go_wp2_with (go_at_call 222;refine eW (bz.out _ L) ?_;rintro e U ⟨vq,vr,rfl,Y,al,am⟩);refine X.out _ _ (Or.inr (ab L Y)) ?_;clear X K;have O:G I U:=ab L Y;refine eY 9 (v:= ?_) rfl eZ (fun _ _ _ h=>h) rfl ?_ ‹_› ?_;rotate_left
 ·exact mA
 try simp only[aput,List.set]
 refine eY 10 (v:= ?_) rfl eZ (fun _ _ _ h=>h) rfl ?_ ‹_› ?_;rotate_left
 ·exact mA
 try simp only[aput,List.set]
 refine eY 11 (v:= ?_) rfl eZ (fun _ _ _ h=>h) rfl ?_ ‹_› ?_;rotate_left
 ·exact mA
 try simp only[aput,List.set]
 refine eY 12 (v:= ?_) rfl eZ (fun _ _ _ h=>h) rfl ?_ ‹_› ?_;rotate_left
 ·exact mA
 try simp only[aput,List.set]
 refine fc (i:=13) eZ rfl ?_;intro K X;go_simp;refine X.out _ _ (Or.inl fk) ?_;clear X K;refine fS eZ ?_ _;have J:G w U:=ab E O;have bn:=hi9 al;have bq:=hi9 am;clear L O Y d2 d4 al am;have s:=df HZ.out hb J;have k:=df HR.out af J;have F:Hid _:=s;have m:Hid _:=k;clear s k;go_wp2_with fail;refine eW (gO U b o (!(n==n')) s0 _ _ F.out bn.out) ?_;rintro e w3 ⟨rfl,k1,k2,k3⟩;have D:SetTo U b o (sg (!(n==n')) dq) (.returned (.pointer (some ⟨b,o,none⟩))) w3:=⟨rfl,k1,k2,k3⟩;have j:Hid _:=SetTo.num F.out D bq.out;have bu:=hi9 (SetTo.keep F.out D m.out (de J af) bs.out);have Z:=SetTo.after hb J D;rw[HS.out] at Z;have bw:Hid (SetTo w b o (Int.tdiv sx S) (.returned (.pointer (some ⟨b,o,none⟩))) w3):=Z;clear k1 k2 k3 D Z;go_wp2_with fail;refine eW (gO w3 N R n s3 _ _ bu.out j.out) ?_;rintro e w4 ⟨rfl,k1,k2,k3⟩;have bl:SetTo w3 N R (sg n dr) (.returned (.pointer (some ⟨N,R,none⟩))) w4:=⟨rfl,k1,k2,k3⟩;rw[bv.out] at bl;clear k1 k2 k3;go_wp2_with fail
 go_ret2
 exact⟨rfl,w3,_,_,bw.out,bl⟩
theorem q6r (w:World) (b o bx L k:Nat) (M sx:Int) (K:Nat) (Z:K≤500000) (U:k≤10000000) (A:sx.natAbs<2^(32*K)) (S:0≤sx) (hb:b<w.heap.size)
  (J:IntIs w b o M) (X:IntIs w bx L sx):
  Calls Tryz.prog 303 #[.pointer (some ⟨b,o,none⟩),.pointer (some ⟨bx,L,none⟩),.int .u64 (k:Int)] w (SetTo w b o ((sx.natAbs/2^k:Nat):Int)):=by
 obtain⟨n,v,a,⟨c1,Y,-,-⟩,hv,h1,h2⟩:=X;have I:=gp h1;have W:n=false:=by
  cases n
  ·rfl
  ·have:=h2 rfl;unfold sg at h1;simp at h1;omega
 subst W;rw[← I] at A ⊢;have O:Hid (∀ E,G w E→_):=fun E g=>iN E v a k K eX eX (hv.G g) A;have R:=hi9 J;have N:Hid (sg false (a/2^k)=((a/2^k:Nat):Int)):=rfl;generalize a/2^k=r at *;clear J A hv h1 h2 I S U;go_enter Tryz.func303,Tryz.ntmps303;go_wp2_with fail;refine eW (O.out _ gv) ?_;rintro e d ⟨c,rfl,C,D⟩;have F:=ab (a:=w) gv C;go_wp2_with fail;refine eW (gy (w0:=w) hb F (gO _ b o _ M _ _ (df R.out hb F) D)) ?_;rintro e i ⟨rfl,B⟩;rw[N.out] at B;go_wp2_with fail;go_ret;exact B
theorem q23 (w:World) (b o:Nat) (s:Int) (K:s.natAbs<2^64) (Z:IntIs w b o s):
  Calls Tryz.prog 291 #[.pointer (some ⟨b,o,none⟩)] w fun e i=>e= .returned (.int .u64 (s.natAbs:Int))∧G w i:=by
 obtain⟨n,v,a,⟨c1,O,-,-⟩,⟨l,I,D,hv⟩,h1,h2⟩:=Z;have R:=gp h1;rw[← R] at K ⊢;subst hv;have B:=I.1;have C:=fg D (k:=2) K;clear R h1 h2;rcases Sl.cases I with ⟨rfl,p,c,rfl⟩|⟨A,j,m,c,rfl,S,hb,J⟩
 ·cases p
  all_goals
   go_enter Tryz.func291,Tryz.ntmps291;go_wp2_with fail;go_ret;exact⟨rfl,ad _⟩
 ·have N:=J 0 (cq.2 A);rw[aP] at N;have L:=ff B 0;by_cases E:l.length=1
  ·have hv:val l=l.getD 0 0:=by
    match l,E with
    |[d],_=>simp [val]
   rw[hv];rw[E] at O S;generalize l.getD 0 0=d0 at *;have M:(d0:Int)≤4294967295:=by omega
   clear J hv L I D B A C K;go_enter Tryz.func291,Tryz.ntmps291;go_wp2_with fail;go_ret;exact⟨rfl,ad _⟩
  ·have F:l.length=2:=by have:=cq.2 A;omega
   have Y:=J 1 eX;have h1:=ff B 1;have hv:val l=l.getD 0 0+l.getD 1 0*2^32:=by
    match l,F with
    |[d,e],_=>simp only[val,List.getD_cons_zero,List.getD_cons_succ];omega
   rw[hv];rw[F] at O S;generalize l.getD 0 0=d0 at *;generalize l.getD 1 0=d1 at *;have M:(d0:Int)≤4294967295:=by omega
   have W:(d1:Int)≤4294967295:=by omega
   have X:bits .or .u64 (d0:Int) ((d1:Int)*4294967296)=((d0+d1*2^32:Nat):Int):=by
    have U:(d1:Int)*4294967296=((d1*2^32:Nat):Int):=by omega
    rw[U,u64_or_nat d0 (d1*2^32) eX eX,dN,nat_join 32 (d1*2^32) d0 eX L,cR]
   generalize d0+d1*2^32=u at *;clear J hv L h1 I D B A E F C K;go_enter Tryz.func291,Tryz.ntmps291;go_wp2_with fail;go_ret;exact⟨rfl,ad _⟩
def q5q (w:World) (a:Nat) (e:Ending) (A:World):Prop:=∃ k:Nat,e= .returned (.int .u64 k)∧kh a k∧G w A
theorem jH {a k:Nat} (A:a≠0) (h:a%2^k=0):2^k≤a:=Nat.le_of_dvd eX (dy h)
theorem q71 (w:World) (b o:Nat) (s:Int) (K:Nat) (hK:K≤1000000) (L:s.natAbs<2^(32*K)) (I:s.natAbs≠0) (hb:b<w.heap.size) (F:IntIs w b o s):
  Calls Tryz.prog 302 #[.pointer (some ⟨b,o,none⟩)] w (q5q w s.natAbs):=by
 obtain⟨n,v,a,⟨c1,y,-,-⟩,hv,h1,h2⟩:=F;have Z:=gp h1;rw[← Z] at L I ⊢;have m:Hid (∀ W (i:Nat),i≤40000000→G w W→_):=fun W i hi g=>q5s W v a i K hK hi (hv.G g) L;have R:=hv;obtain⟨l,c,N,D⟩:=R;obtain⟨pa,ca,rfl,-,-⟩:=fF c;have C:l.length≠0:=by
  intro h;have:=aN h;rw[this] at D;exact I D.symm
 have t0:((l.length:Int)==0)=false:=by simp;intro h;exact C (by rw[h];rfl)
 have af:decide (l.length=0)=false:=by simpa using C
 generalize l.length=j at *;have d:Hid (∀ k,a%2^k=0→k<32*K):=fun k h=>(aV (by omega:1<2)).1 (aD (jH I h) L);clear c N D hv Z h1 h2 L I C;go_enter Tryz.func302,Tryz.ntmps302;go_wp2_with fail
 go_loopw [3] (fun U wr=>∃ k:Nat,U= .int .u64 k∧a%2^k=0∧G w wr) (fun U _=>32*K+1-(intOf U).toNat)
 case atStart=>exact⟨0,rfl,by simp [Nat.mod_one],ad _⟩
 case round=>
  obtain⟨k,rfl,O,J⟩:=hrel;have ag:=d.out k O;have ai:(k:Int)≤32000000:=by omega
  have X:=hi9 O;have d2:=J.cell hb y;have A:=hi9 (m.out wr k eX J);have al:IntKind.i64.wrap (k:Int)=k:=by rw[IntKind.wrap_i64];omega
  clear O;obtain⟨z,F,am⟩:∃ z:Nat,a/2^k%2=z∧z≤1:=⟨_,rfl,by omega⟩;have Y:=hi9 F;rw[F] at A;clear F;by_cases S:z=0
  ·subst S;have E:a%2^(k+1)=0:=by rw[bH,eD,X.out,Y.out,bG]
   have M:=hi9 E;clear E;go_wp2_with fail;refine Calls.mono (P:=Tryz.prog) A.out ?_;rintro e w2 ⟨rfl,B⟩;go_wp2_with fail
   go_roundw
   case rel=>exact⟨k+1,by go_num,M.out,ab J B⟩
   case measure=>simp only[intOf];omega
  ·obtain rfl:z=1:=by omega
   go_wp2_with fail;refine Calls.mono (P:=Tryz.prog) A.out ?_;rintro e w2 ⟨rfl,B⟩;go_wp2_with fail;go_ret;exact⟨k,rfl,⟨X.out,Y.out⟩,ab J B⟩
/-- A new Int, since w0. -/
def NI (w0 w:World) (p:Nat) (s:Int):Prop:=w0.heap.size≤p∧p<w.heap.size∧IntIs w p 0 s
theorem NI.G {w0 w A:World} {p:Nat} {s:Int} (h:NI w0 w p s) (g:G w A):NI w0 A p s:=⟨h.1,aj h.2.1 g.size,h.2.2.G h.2.1 g⟩
theorem NI.new {w0 w:World} (g:Go.Proofs.YtohcneeihdkfgaaGreatDoor.G w0 w) (t:TypeId):NI w0 (w.alloc (.cells #[.bool false,.slice none 0 0] t)) w.heap.size 0:=⟨g.size,by simp,mD w t⟩
theorem ei:type_of% @NI.new:= @NI.new
/-- What a method that sets a new Int leaves behind. -/
def Step (w0 w:World) (p:Nat) (s:Int) (e:Ending) (A:World):Prop:=
 e= .returned (.pointer (some ⟨p,0,none⟩))∧G w0 A∧NI w0 A p s∧w.heap.size≤A.heap.size∧∀ B C,B≠p→NI w0 w B C→NI w0 A B C
theorem SetTo.step {w0 w:World} {p:Nat} {E s:Int} {e:Ending} {D:World} (g:G w0 w) (B:NI w0 w p E) (h:SetTo w p 0 s e D):Step w0 w p s e D:=
 ⟨h.1,h.fresh g B.1,⟨B.1,aj B.2.1 h.size,h.is⟩,h.size,fun _ _ C A=>⟨A.1,aj A.2.1 h.size,SetTo.keep B.2.2 h A.2.2 A.2.1 (Or.inl C)⟩⟩
theorem bj:type_of% @SetTo.step:= @SetTo.step
theorem Step.to {w0 w:World} {p:Nat} {s:Int} {e:Ending} {A:World} (h:Step w0 w p s e A):e= .returned (.pointer (some ⟨p,0,none⟩)):=h.1
end Go.Proofs.YtohcneeihdkfgaaGreatDoor
namespace Go.Proofs.YtohcneeihdkfgaaGreatDoor
open Go.RowKit
open BN
/-- N / D, rounded to the nearest whole number, of two as near to the even one. -/
def fQ (N D:Nat):Nat:=N/D+(if D<2*(N%D)∨(2*(N%D)=D∧N/D%2=1) then 1 else 0)
/-- A / B in units of 2^p. -/
def upP (A:Nat) (p:Int):Nat:=A*2^(-p).toNat
def loP (B:Nat) (p:Int):Nat:=B*2^p.toNat
def ij (A B:Nat) (p:Int):Nat:=fQ (upP A p) (loP B p)
def nO (m q:Nat):Prop:=blen q≤m∨(blen q=m+1∧q%2^m=0)
def iq (A B m:Nat) (low:Int):Int:=if (blen A:Int)-blen B-m<low then low else (blen A:Int)-blen B-m
def pg (A B m:Nat) (p:Int) (v:Nat) (P:Int) (x:Bool):Prop:=
 ((blen (ij A B p)≤m∧v=ij A B p∧P=p)∨(blen (ij A B p)=m+1∧ij A B p%2^m=0∧v=ij A B p/2∧P=p+1))∧x=decide (upP A p%loP B p=0)
def jF (A B m:Nat) (C p:Int):Prop:=p=C∨(p=C+1∧¬ nO m (ij A B C))
theorem blen_le_iff {a k:Nat}:blen a≤k↔a<2^k:=by
 rcases cm a with rfl|B
 ·have:blen 0=0:=rfl;rw[this];exact⟨fun _=>ae k,fun _=>bU _⟩
 ·obtain⟨h1,h2,h3⟩:=jv (a:=a) eX;constructor
  ·intro h;exact aj h3 (ao eX h)
  ·intro h;have A:2^(blen a-1)<2^k:=aD h2 h;have:=(aV (by omega:1<2)).1 A;omega
theorem oR {N D T:Nat} (h:N<T*D):fQ N D≤T:=by
 unfold fQ;have h1:N/D<T:=by
  rcases cm D with rfl|A
  ·simp at h
  ·exact(aO A).2 h
 split<;>omega
theorem mz {m q:Nat} (h:q≤2^m):nO m q:=by
 rcases Nat.lt_or_eq_of_le h with h|h
 ·exact Or.inl (blen_le_iff.2 h)
 ·refine Or.inr ⟨?_,by rw[h,Nat.mod_self]⟩;rw[h];exact pk (bk eX eX) (Or.inr fX)
theorem q4P {A B m:Nat} {low p:Int} (D:A≠0) (E:B≠0) (L:iq A B m low+1≤p):upP A p<2^m*loP B p:=by
 obtain⟨F,a2,a3⟩:=jv D;obtain⟨I,C,J⟩:=jv E;have h1:(blen A:Int)-blen B-m≤iq A B m low:=by unfold iq;split<;>omega
 unfold upP loP;have h2:A*2^(-p).toNat<2^(blen A+(-p).toNat):=by rw[ah];exact av a3 (ae _)
 have h3:2^(m+(blen B-1+p.toNat))≤2^m*(B*2^p.toNat):=by
  rw[ah,ah];exact aB _ (au _ C)
 have K:2^(blen A+(-p).toNat)≤2^(m+(blen B-1+p.toNat)):=ao eX eX;omega
/-- The second time at the latest it stops. -/
theorem q1E {A B m:Nat} {low C p:Int} (F:A≠0) (I:B≠0) (K:C=iq A B m low) (D:jF A B m C p) (E:¬ nO m (ij A B p)):p=C∧jF A B m C (p+1):=by
 rcases D with h|⟨h,J⟩
 ·exact⟨h,Or.inr ⟨by omega,by rw[← h];exact E⟩⟩
 ·exact absurd (mz (oR (q4P (low:=low) F I eX))) E
theorem q6G {A:Nat} {p:Int} {K:Nat} (B:A<2^(32*K)) (C: -(32*(K:Int))≤p):upP A p<2^(32*(2*K)):=by
 unfold upP;have h:A*2^(-p).toNat<2^(32*K)*2^(-p).toNat:=av B (ae _);rw[← ah] at h;exact aj h (ao eX eX)
theorem q5X {B:Nat} {p:Int} {K:Nat} (A:B<2^(32*K)) (C:p≤32*(K:Int)):loP B p<2^(32*(2*K)):=by
 unfold loP;have h:B*2^p.toNat<2^(32*K)*2^p.toNat:=av A (ae _);rw[← ah] at h;exact aj h (ao eX eX)
theorem kO {B:Nat} {p:Int} (A:B≠0):0<loP B p:=aM eX (ae _)
theorem q1f {N D:Nat}:fQ N D=N/D+(if 0<cmpI ((N%D*2:Nat):Int) (D:Int)∨(cmpI ((N%D*2:Nat):Int) (D:Int)=0∧N/D%2=1) then 1 else 0):=by
 unfold fQ cmpI
 congr 1
 by_cases h1:N%D*2<D
 ·have A:((N%D*2:Nat):Int)<(D:Int):=by omega
  simp only[if_pos A];rw[if_neg eX,if_neg eX]
 ·have A:¬ ((N%D*2:Nat):Int)<(D:Int):=by omega
  simp only[if_neg A];by_cases h2:N%D*2=D
  ·have B:((N%D*2:Nat):Int)=(D:Int):=by omega
   simp only[if_pos B];by_cases h3:N/D%2=1
   ·rw[if_pos eX,if_pos (by simp [h3])]
   ·rw[if_neg eX,if_neg (by simp [h3])]
  ·have B:¬ ((N%D*2:Nat):Int)=(D:Int):=by omega
   simp only[if_neg B];rw[if_pos eX,if_pos eX]
end Go.Proofs.YtohcneeihdkfgaaGreatDoor
namespace Go.Proofs.YtohcneeihdkfgaaGreatDoor
open Go.ChangeShapes Go.WideShapes Go.ChangeAt Go.RowKit
open BN
theorem q3J {n:Bool} {a:Nat}:sg (!n) a= -sg n a:=by unfold sg;cases n<;>simp
theorem nv (w:World) (b o bx I:Nat) (s sx:Int) (K:Nat) (D:K≤1000000) (M:sx.natAbs<2^(32*K)) (hb:b<w.heap.size) (af:bx<w.heap.size)
  (m:IntIs w b o s) (hx:IntIs w bx I sx):
  Calls Tryz.prog 84 #[.pointer (some ⟨b,o,none⟩),.pointer (some ⟨bx,I,none⟩)] w (SetTo w b o (-sx)):=by
 obtain⟨n,v,a,⟨c1,c2,-,-⟩,hv,h1,-⟩:=hx;have ha:=gp h1;have HW:Hid (∀ N,G w N→_):=fun N g=>qj N v a K D (hv.G g) eX;have HZ:=hi9 m;have y:Hid (sg (!n) a= -sx):=by show sg (!n) a= -sx;rw[q3J,h1]
 clear m M hv h1 ha;go_enter Tryz.func84,Tryz.ntmps84;go_wp2_with fail;refine gL 11 (G w) eZ (by first|exact(ad _).drew|exact G.drew mB) ?_;intro E;have C:Hid (∀ B,G w B→B.cell? ⟨bx,I,none⟩=some (.bool n)∧B.cell? ⟨bx,I+1,none⟩=some (v)):=fun B A=>⟨l5 ⟨bx,I,none⟩ (.bool n) A,l5 ⟨bx,I+1,none⟩ v A⟩;refine eY 0 (v:= ?_) rfl eZ (fun _ _ _ h=>h) rfl ?_ ‹_› ?_;rotate_left
 ·intro B A;obtain⟨ag,ai⟩:=C.out B A;exact gj
 try simp only[aput,List.set]
 refine eY 1 (v:= ?_) rfl eZ (fun _ _ _ h=>h) rfl ?_ ‹_› ?_;rotate_left
 ·intro B A;obtain⟨al,am⟩:=C.out B A;exact gj
 try simp only[aput,List.set]
 refine eY 2 (v:= ?_) rfl eZ (fun _ _ _ h=>h) rfl ?_ ‹_› ?_;rotate_left
 ·intro B A;obtain⟨an,ap⟩:=C.out B A;exact gj
 try simp only[aput,List.set]
 refine eY 3 (v:= ?_) rfl eZ (fun _ _ _ h=>h) rfl ?_ ‹_› ?_;rotate_left
 ·intro B A;obtain⟨bi,bl⟩:=C.out B A;exact gj
 try simp only[aput,List.set]
 refine eY 4 (v:= ?_) rfl eZ (fun _ _ _ h=>h) rfl ?_ ‹_› ?_;rotate_left
 ·intro B A;obtain⟨O,R⟩:=C.out B A;exact gj
 try simp only[aput,List.set]
 refine eY 5 (v:= ?_) rfl eZ (fun _ _ _ h=>h) rfl ?_ ‹_› ?_;rotate_left
 ·intro B A;obtain⟨S,U⟩:=C.out B A;exact gj
 try simp only[aput,List.set]
 refine eY 6 (v:= ?_) rfl eZ (fun _ _ _ h=>h) rfl ?_ ‹_› ?_;rotate_left
 ·intro B A;obtain⟨W,X⟩:=C.out B A;exact gj
 try simp only[aput,List.set]
 refine eY 7 (v:= ?_) rfl eZ (fun _ _ _ h=>h) rfl ?_ ‹_› ?_;rotate_left
 ·intro B A;obtain⟨Y,Z⟩:=C.out B A;exact gj
 try simp only[aput,List.set]
 refine eY 8 (v:= ?_) rfl eZ (fun _ _ _ h=>h) rfl ?_ ‹_› ?_;rotate_left
 ·intro B A;obtain⟨c,d⟩:=C.out B A;exact gj
 try simp only[aput,List.set]
 refine eY 9 (v:= ?_) rfl eZ (fun _ _ _ h=>h) rfl ?_ ‹_› ?_;rotate_left
 ·intro B A;obtain⟨j,k⟩:=C.out B A;exact gj
 try simp only[aput,List.set]
 clear C;refine fc (i:=10) eZ rfl ?_;intro K D;go_simp;go_wp2_with (go_at_call 169;refine Calls.mono (P:=Tryz.prog) (HW.out _ E) ?_;rintro e w2 ⟨v1,rfl,F,L⟩);refine D.out _ _ (Or.inr (ab E F)) ?_;clear D K;refine fc (i:=11) eZ rfl ?_;intro K D;go_simp;go_wp2_with (go_at_call 158;refine Calls.mono (P:=Tryz.prog) (gy (w0:=w) hb (ab E F) (gO _ b o _ s _ _ (df HZ.out hb (ab E F)) L)) ?_;rintro e w3 ⟨rfl,J⟩);refine D.out _ _ (Or.inl fk) ?_;clear D K;refine fc (i:=12) eZ rfl ?_;intro K D;go_simp;refine D.out _ _ (Or.inl fk) ?_;clear D K;refine fS eZ ?_ _;rw[y.out] at J;go_wp2_with fail;go_ret;exact J
/-- At block b lies a Rat: its two Ints (a lower one of 0 stands for 1). -/
def RatIs (w:World) (b:Nat) (sa A:Int):Prop:=IntIs w b 0 sa∧IntIs w b 2 A
theorem iY (w:World) (t:TypeId):RatIs (w.alloc (.cells #[.bool false,.slice none 0 0,.bool false,.slice none 0 0] t)) w.heap.size 0 0:=by
 refine⟨⟨false,.slice none 0 0,0,⟨?_,?_,World.frozen?_alloc_at _ _ _ _ rfl,World.frozen?_alloc_at _ _ _ _ rfl⟩,ir _ _ _,rfl,fun h=>by cases h⟩,
  ⟨false,.slice none 0 0,0,⟨?_,?_,World.frozen?_alloc_at _ _ _ _ rfl,World.frozen?_alloc_at _ _ _ _ rfl⟩,ir _ _ _,rfl,fun h=>by cases h⟩⟩
 all_goals rw[World.cell?_alloc_at _ _ _ _ rfl];rfl
theorem RatIs.G {w B:World} {b:Nat} {sa A:Int} (h:RatIs w b sa A) (hb:b<w.heap.size) (g:G w B):RatIs B b sa A:=⟨h.1.G hb g,h.2.G hb g⟩
theorem mN (w:World) (b:Nat) (sa C:Int) (h:RatIs w b sa C):
  Calls Tryz.prog 23 #[.pointer (some ⟨b,0,none⟩)] w fun e D=>e= .returned (.int .i64 sa.sign)∧G w D:=by
 have B:=hi9 (q0R w b 0 sa h.1);generalize sa.sign=s at *;clear h;go_enter Tryz.func23,Tryz.ntmps23;go_wp2_with fail;refine Calls.mono (P:=Tryz.prog) B.out ?_;rintro e E ⟨rfl,A⟩;go_wp2_with fail;go_ret;exact⟨rfl,A⟩
/-- den: where the lower part is laid, it is handed back itself. -/
theorem lx (w:World) (b:Nat) (sa F:Int) (D:F≠0) (h:RatIs w b sa F):
  Calls Tryz.prog 73 #[.pointer (some ⟨b,0,none⟩)] w fun e K=>e= .returned (.pointer (some ⟨b,2,none⟩))∧G w K:=by
 obtain⟨-,n,v,a,⟨c1,L,-,-⟩,⟨l,E,B,A⟩,h1,-⟩:=h;have J:=gp h1;obtain⟨p,c,rfl,-,-⟩:=fF E;have C:l.length≠0:=by
  intro I;rw[aN I] at A;have:a=0:=A.symm;omega
 have t0:((l.length:Int)==0)=false:=by simp;intro h;exact C (by rw[h];rfl)
 generalize l.length=j at *;clear E B A h1 J D;go_enter Tryz.func73,Tryz.ntmps73;go_wp2_with fail;go_ret;exact⟨rfl,ad _⟩
theorem q6A (w:World) (b o bx L J M:Nat) (c sx U:Int) (K:Nat) (D:K≤1000000) (Y:sx.natAbs<2^(32*K)) (Z:U.natAbs<2^(32*K)) (hb:b<w.heap.size) (hp:bx<w.heap.size) (hq:J<w.heap.size)
  (hz:IntIs w b o c) (hx:IntIs w bx L sx) (hy:IntIs w J M U):
  Calls Tryz.prog 75 #[.pointer (some ⟨b,o,none⟩),.pointer (some ⟨bx,L,none⟩),.pointer (some ⟨J,M,none⟩)] w (SetTo w b o (sx-U)):=by
 obtain⟨n,v,a,⟨c1,c2,-,-⟩,hv,h1,-⟩:=hx;obtain⟨S,d,W,⟨c3,c4,-,-⟩,R,h2,-⟩:=hy;have ha:=gp h1;have X:=gp h2;have HW:Hid (∀ k,G w k→_):=fun k g=>q5F k n (!S) v d a W K D (hv.G g) (R.G g) eX eX;have s:=hi9 hz;have m:Hid (sg n a+sg (!S) W=sx-U):=by show sg n a+sg (!S) W=sx-U;rw[q3J,h1,h2];omega
 clear hz Y Z hv R h1 h2 ha X;go_enter Tryz.func75,Tryz.ntmps75;go_wp2_with fail;refine gL 21 (G w) eZ (by first|exact(ad _).drew|exact G.drew mB) ?_;intro E;have C:Hid (∀ B,G w B→B.cell? ⟨bx,L,none⟩=some (.bool n)∧B.cell? ⟨bx,L+1,none⟩=some (v)∧B.cell? ⟨J,M,none⟩=some (.bool S)∧B.cell? ⟨J,M+1,none⟩=some (d)):=fun B A=>⟨l5 ⟨bx,L,none⟩ (.bool n) A,l5 ⟨bx,L+1,none⟩ v A,l5 ⟨J,M,none⟩ (.bool S) A,l5 ⟨J,M+1,none⟩ d A⟩;refine eY 0 (v:= ?_) rfl eZ (fun _ _ _ h=>h) rfl ?_ ‹_› ?_;rotate_left
 ·intro B A;obtain⟨hr,hs,ht,hw⟩:=C.out B A;exact gj
 try simp only[aput,List.set]
 refine eY 1 (v:= ?_) rfl eZ (fun _ _ _ h=>h) rfl ?_ ‹_› ?_;rotate_left
 ·intro B A;obtain⟨ia,ib,ih,ii⟩:=C.out B A;exact gj
 try simp only[aput,List.set]
 refine eY 2 (v:= ?_) rfl eZ (fun _ _ _ h=>h) rfl ?_ ‹_› ?_;rotate_left
 ·intro B A;obtain⟨y,af,ag,ai⟩:=C.out B A;exact gj
 try simp only[aput,List.set]
 refine eY 3 (v:= ?_) rfl eZ (fun _ _ _ h=>h) rfl ?_ ‹_› ?_;rotate_left
 ·intro B A;obtain⟨al,am,an,ap⟩:=C.out B A;exact gj
 try simp only[aput,List.set]
 refine eY 4 (v:= ?_) rfl eZ (fun _ _ _ h=>h) rfl ?_ ‹_› ?_;rotate_left
 ·intro B A;obtain⟨bi,bl,bm,bn⟩:=C.out B A;exact gj
 try simp only[aput,List.set]
 refine eY 5 (v:= ?_) rfl eZ (fun _ _ _ h=>h) rfl ?_ ‹_› ?_;rotate_left
 ·intro B A;obtain⟨bq,bs,bu,bv⟩:=C.out B A;exact gj
 try simp only[aput,List.set]
 refine eY 6 (v:= ?_) rfl eZ (fun _ _ _ h=>h) rfl ?_ ‹_› ?_;rotate_left
 ·intro B A;obtain⟨bw,bz,ca,cb⟩:=C.out B A;exact gj
 try simp only[aput,List.set]
 refine eY 7 (v:= ?_) rfl eZ (fun _ _ _ h=>h) rfl ?_ ‹_› ?_;rotate_left
 ·intro B A;obtain⟨cc,cd,ce,ci⟩:=C.out B A;exact gj
 try simp only[aput,List.set]
 refine eY 8 (v:= ?_) rfl eZ (fun _ _ _ h=>h) rfl ?_ ‹_› ?_;rotate_left
 ·intro B A;obtain⟨cl,cr,cs,cz⟩:=C.out B A;exact gj
 try simp only[aput,List.set]
 refine eY 9 (v:= ?_) rfl eZ (fun _ _ _ h=>h) rfl ?_ ‹_› ?_;rotate_left
 ·intro B A;obtain⟨di,dl,dq,dr⟩:=C.out B A;exact gj
 try simp only[aput,List.set]
 refine eY 10 (v:= ?_) rfl eZ (fun _ _ _ h=>h) rfl ?_ ‹_› ?_;rotate_left
 ·intro B A;obtain⟨ds,ea,eb,ec⟩:=C.out B A;exact gj
 try simp only[aput,List.set]
 refine eY 11 (v:= ?_) rfl eZ (fun _ _ _ h=>h) rfl ?_ ‹_› ?_;rotate_left
 ·intro B A;obtain⟨ee,em,ep,eu⟩:=C.out B A;exact gj
 try simp only[aput,List.set]
 refine eY 12 (v:= ?_) rfl eZ (fun _ _ _ h=>h) rfl ?_ ‹_› ?_;rotate_left
 ·intro B A;obtain⟨ez,fa,fb,fh⟩:=C.out B A;exact gj
 try simp only[aput,List.set]
 refine eY 13 (v:= ?_) rfl eZ (fun _ _ _ h=>h) rfl ?_ ‹_› ?_;rotate_left
 ·intro B A;obtain⟨fp,fr,fs,fv⟩:=C.out B A;exact gj
 try simp only[aput,List.set]
 refine eY 14 (v:= ?_) rfl eZ (fun _ _ _ h=>h) rfl ?_ ‹_› ?_;rotate_left
 ·intro B A;obtain⟨ga,gd,gg,gm⟩:=C.out B A;exact gj
 try simp only[aput,List.set]
 refine eY 15 (v:= ?_) rfl eZ (fun _ _ _ h=>h) rfl ?_ ‹_› ?_;rotate_left
 ·intro B A;obtain⟨hc,hd,he,hf⟩:=C.out B A;exact gj
 try simp only[aput,List.set]
 refine eY 16 (v:= ?_) rfl eZ (fun _ _ _ h=>h) rfl ?_ ‹_› ?_;rotate_left
 ·intro B A;obtain⟨hg,hh,hj,hk⟩:=C.out B A;exact gj
 try simp only[aput,List.set]
 refine eY 17 (v:= ?_) rfl eZ (fun _ _ _ h=>h) rfl ?_ ‹_› ?_;rotate_left
 ·intro B A;obtain⟨hl,hm,hn,ho⟩:=C.out B A;exact gj
 try simp only[aput,List.set]
 clear C;refine fc (i:=18) eZ rfl ?_;intro K D;go_simp;go_wp2_with (go_at_call 159;refine Calls.mono (P:=Tryz.prog) (HW.out _ E) ?_;rintro e w2 ⟨rn,v1,ra,rfl,F,N,O⟩);refine D.out _ _ (Or.inr (ab E F)) ?_;clear D K;refine gR (i:=19) (j:=20) eZ rfl rfl ?_ ?_
 ·intro K D;go_simp;refine D.out _ _ (Or.inr (ab E F)) ?_;clear D K;refine fc (i:=20) eZ rfl ?_;intro K D;go_simp;refine D.out _ _ (Or.inr (ab E F)) ?_;clear D K;refine fc (i:=21) eZ rfl ?_;intro K D;go_simp;go_wp2_with (go_at_call 158;refine Calls.mono (P:=Tryz.prog) (gy (w0:=w) hb (ab E F) (gO _ b o _ c _ _ (df s.out hb (ab E F)) N)) ?_;rintro e w3 ⟨rfl,I⟩);refine D.out _ _ (Or.inl fk) ?_;clear D K;refine fc (i:=22) eZ rfl ?_;intro K D;go_simp;refine D.out _ _ (Or.inl fk) ?_;clear D K;refine fS eZ ?_ _;rw[O,m.out] at I;go_wp2_with fail;go_ret;exact I
 ·intro K D;go_simp;refine D.out _ _ (Or.inr (ab E F)) ?_;clear D K;refine fc (i:=19) eZ rfl ?_;intro K D;go_simp;refine D.out _ _ (Or.inr (ab E F)) ?_;clear D K;refine fc (i:=21) eZ rfl ?_;intro K D;go_simp;go_wp2_with (go_at_call 158;refine Calls.mono (P:=Tryz.prog) (gy (w0:=w) hb (ab E F) (gO _ b o _ c _ _ (df s.out hb (ab E F)) N)) ?_;rintro e w3 ⟨rfl,I⟩);refine D.out _ _ (Or.inl fk) ?_;clear D K;refine fc (i:=22) eZ rfl ?_;intro K D;go_simp;refine D.out _ _ (Or.inl fk) ?_;clear D K;refine fS eZ ?_ _;rw[O,m.out] at I;go_wp2_with fail;go_ret;exact I
end Go.Proofs.YtohcneeihdkfgaaGreatDoor
