/- What is proved here: contracts of the reference's big numbers: Sign, BitLen, Cmp, Bit, QuoRem, Rsh of Int, over this seat's translation.
What is proved here: how two whole numbers compare (no program), over this seat's translation.
What is proved here: contracts of the reference's big numbers: QuoRem, Rsh, Uint64 of Int, what a writing method leaves standing, over this seat's translation.
What is proved here: contracts of the reference's big numbers: TrailingZeroBits of Int, new Ints step by step, over this seat's translation.
What is proved here: the reference's nearest number, its arithmetic (no program).
What is proved here: contracts of the reference's big numbers: Neg of Int, the smallest methods of Rat, over this seat's translation.
What is proved here: contracts of the reference's big numbers: Sub of Int, over this seat's translation.
What is proved here: contracts of the reference's big numbers: DivMod, Div of Int by one above 0, over this seat's translation.
What is proved here: contracts of the reference's big numbers: Exp of Int without a modulus, over this seat's translation. -/
import Derived.Test.YtfnkkkcojnffdaaGreatDoorQ1
import Derived.Test.YtfnkkkcojnffdaaGreatDoorQ8
import Derived.Test.YtfnkkkcojnffdaaGreatDoorQ3
import Derived.Test.YtfnkkkcojnffdaaGreatDoorQ25
import Derived.Test.YtfnkkkcojnffdaaGreatDoorQ22
import Derived.Test.YtfnkkkcojnffdaaGreatDoorQ6
import Derived.Test.YtfnkkkcojnffdaaGreatDoorQ18
import Derived.Test.YtfnkkkcojnffdaaGreatDoorQ24
import Derived.Test.YtfnkkkcojnffdaaGreatDoorQ23
import Derived.Test.YtfnkkkcojnffdaaGreatDoorQ11
namespace Go.Proofs.YtfnkkkcojnffdaaGreatDoor
open Go.ChangeShapes Go.WideShapes Go.ChangeAt Go.RowKit
open BN
theorem q29 (w:World) (b o:Nat) (s:Int) (F:IntIs w b o s):
  Calls Tryz.prog 68 #[.pointer (some ⟨b,o,none⟩)] w fun e I=>e= .returned (.int .i64 s.sign)∧G w I:=by
 obtain⟨n,v,a,⟨c1,J,-,-⟩,⟨l,E,D,hv⟩,h1,h2⟩:=F;obtain⟨p,c,rfl,-,-⟩:=fa E;have C:a=0↔l.length=0:=by rw[← hv,fR D,List.length_eq_zero_iff]
 generalize l.length=j at *;have B:s.sign=if j=0 then 0 else if n then -1 else 1:=by
  rw[← h1];unfold sg;by_cases A:j=0
  ·rw[if_pos A,C.2 A];simp
  ·rw[if_neg A];have K:a≠0:=fun h=>A (C.1 h);cases n
   ·simp;omega
   ·simp;omega
 rw[B];clear B E D hv h1 h2 C;by_cases A:j=0
 ·subst A;go_enter Tryz.func68,Tryz.ntmps68;go_wp2_with fail;go_ret;exact⟨rfl,ag _⟩
 ·rw[if_neg A];have t0:((j:Int)==0)=false:=by simp;omega
  cases n
  all_goals
   go_enter Tryz.func68,Tryz.ntmps68;go_wp2_with fail;go_ret;exact⟨rfl,ag _⟩
theorem G.lt {w A:World} {b:Nat} (g:G w A) (h:b<w.heap.size):b<A.heap.size:=ae h g.size
theorem dp:type_of% @G.lt:= @G.lt
def cmpI (x y:Int):Int:=if x<y then -1 else if x=y then 0 else 1
theorem rK {n:Bool} {a b:Nat}:cmpI (sg n a) (sg n b)=if n then -(cmpV a b) else cmpV a b:=by
 unfold cmpI cmpV sg;cases n
 ·simp only[aB,if_false];by_cases h1:a<b
  ·rw[if_pos eK,if_pos h1]
  ·rw[if_neg eK,if_neg h1];by_cases h2:a=b
   ·rw[if_pos eK,if_pos h2]
   ·rw[if_neg eK,if_neg h2]
 ·simp only[if_true];by_cases h1:a<b
  ·rw[if_neg eK,if_neg eK,if_pos h1];rfl
  ·rw[if_neg h1];by_cases h2:a=b
   ·rw[if_neg eK,if_pos eK,if_pos h2];rfl
   ·rw[if_pos eK,if_neg h2]
theorem lh (w:World) (bx M F R:Nat) (sx S:Int) (K:Nat) (X:K≤1000000) (s:sx.natAbs<2^(32*K)) (y:S.natAbs<2^(32*K)) (J:bx<w.heap.size) (d:F<w.heap.size)
  (hx:IntIs w bx M sx) (hy:IntIs w F R S):
  Calls Tryz.prog 70 #[.pointer (some ⟨bx,M,none⟩),.pointer (some ⟨F,R,none⟩)] w fun e w'=>e= .returned (.int .i64 (cmpI sx S))∧G w w':=by
 obtain⟨n,v,a,⟨c1,c2,-,-⟩,hv,h1,h3⟩:=hx;obtain⟨n',v',U,⟨c3,c4,-,-⟩,O,h2,h4⟩:=hy;have ha:=fP h1;have Z:=fP h2;have HW:Hid (∀ E,G w E→_):=fun E g=>iz E v v' a U K eK (hv.G g) (O.G g) eK eK;by_cases hn:n=n'
 ·subst hn;have Y:Hid (cmpI sx S=if n then -(cmpV a U) else cmpV a U):=by show cmpI sx S=_;rw[← h1,← h2];exact rK
  have bu: -1≤cmpV a U:=by unfold cmpV;split<;>(try split)<;>omega
  have bv:cmpV a U≤1:=by unfold cmpV;split<;>(try split)<;>omega
  have t0:(n==n)=true:=by simp
  generalize cmpV a U=cv at *;rw[Y.out];clear s y hv O h1 h2 ha Z h3 h4 Y;cases n
  all_goals
   go_enter Tryz.func70,Tryz.ntmps70;go_wp2_with fail;refine eV eM eM ?_;intro W hW;have j:=ik (w:=W) ⟨bx,M,none⟩ (.bool _);have k:=ik (w:=W) ⟨F,R,none⟩ (.bool _);clear hW
   repeat (go_big_quiet_step (fail))
   refine wpQuiet_nil ?_;clear j k;intro E D;have L:=D;have d1:=D.cell (p:=⟨bx,M,none⟩) J c1;have d2:=D.cell (p:=⟨bx,M+1,none⟩) J c2;have d3:=D.cell (p:=⟨F,R+1,none⟩) d c4;go_wp2_with fail;clear c1 c2 c3 c4 D;have c:bx<E.heap.size:=dp L J;have am:F<E.heap.size:=dp L d;have al:Hid (∀ w2,G E w2→_):=fun w2 g=>HW.out w2 (aa L g);refine fN 9 (G E) eM (by first|exact(ag _).drew|exact G.drew kg) ?_;intro I;have C:Hid (∀ B,G E B→B.cell? ⟨bx,M+1,none⟩=some (v)∧B.cell? ⟨F,R+1,none⟩=some (v')):=fun B A=>⟨kh ⟨bx,M+1,none⟩ v A,kh ⟨F,R+1,none⟩ v' A⟩;refine eL 0 (v:= ?_) rfl eM (fun _ _ _ h=>h) rfl ?_ ‹_› ?_;rotate_left
   ·intro B A;obtain⟨bz,ca⟩:=C.out B A;exact fE
   try simp only[aput,List.set]
   refine eL 1 (v:= ?_) rfl eM (fun _ _ _ h=>h) rfl ?_ ‹_› ?_;rotate_left
   ·intro B A;obtain⟨cb,cc⟩:=C.out B A;exact fE
   try simp only[aput,List.set]
   refine eL 2 (v:= ?_) rfl eM (fun _ _ _ h=>h) rfl ?_ ‹_› ?_;rotate_left
   ·intro B A;obtain⟨cd,ce⟩:=C.out B A;exact fE
   try simp only[aput,List.set]
   refine eL 3 (v:= ?_) rfl eM (fun _ _ _ h=>h) rfl ?_ ‹_› ?_;rotate_left
   ·intro B A;obtain⟨ci,cl⟩:=C.out B A;exact fE
   try simp only[aput,List.set]
   refine eL 4 (v:= ?_) rfl eM (fun _ _ _ h=>h) rfl ?_ ‹_› ?_;rotate_left
   ·intro B A;obtain⟨an,ao⟩:=C.out B A;exact fE
   try simp only[aput,List.set]
   refine eL 5 (v:= ?_) rfl eM (fun _ _ _ h=>h) rfl ?_ ‹_› ?_;rotate_left
   ·intro B A;obtain⟨ap,bi⟩:=C.out B A;exact fE
   try simp only[aput,List.set]
   refine eL 6 (v:= ?_) rfl eM (fun _ _ _ h=>h) rfl ?_ ‹_› ?_;rotate_left
   ·intro B A;obtain⟨bl,bn⟩:=C.out B A;exact fE
   try simp only[aput,List.set]
   refine eL 7 (v:= ?_) rfl eM (fun _ _ _ h=>h) rfl ?_ ‹_› ?_;rotate_left
   ·intro B A;obtain⟨bq,bs⟩:=C.out B A;exact fE
   try simp only[aput,List.set]
   clear C;refine eN (i:=8) eM rfl ?_;intro K X;go_simp;go_wp2_with (go_at_call 125;refine Calls.mono (P:=Tryz.prog) (al.out _ I) ?_;rintro e w2 ⟨rfl,N⟩);refine X.out _ _ (Or.inr (aa I N)) ?_;clear X K;refine eN (i:=9) eM rfl ?_;intro K X;go_simp;refine X.out _ _ (Or.inl ff) ?_;clear X K;refine fh eM ?_ _;have e1:=(aa I N).cell c d1;go_wp2_with fail;go_ret;exact⟨rfl,aa L (aa I N)⟩
 ·have t0:(n==n')=false:=by simp [hn]
  obtain rfl:n'= !n:=by cases n<;>cases n'<;>simp_all
  have Y:Hid (cmpI sx S=if n then -1 else 1):=by
   show cmpI sx S=_;rw[← h1,← h2];unfold cmpI sg;cases n
   ·have:=h4 rfl;simp only[aB,if_false,dU,if_true];rw[if_neg eK,if_neg eK]
   ·have:=h3 rfl;simp only[cP,aB,if_false,if_true];rw[if_pos eK]
  rw[Y.out];clear s y hv O h1 h2 ha Z h3 h4 Y HW;cases n
  all_goals
   go_enter Tryz.func70,Tryz.ntmps70;go_wp2_with fail;refine eV eM eM ?_;intro W hW;have m:=ik (w:=W) ⟨bx,M,none⟩ (.bool _);have o:=ik (w:=W) ⟨F,R,none⟩ (.bool _);clear hW
   repeat (go_big_quiet_step (fail))
   refine wpQuiet_nil ?_;clear m o;intro E D;have d1:=D.cell (p:=⟨bx,M,none⟩) J c1;go_wp2_with fail;go_ret;exact⟨rfl,D⟩
theorem q3G (w:World) (va:Value) (a i K:Nat) (hK:K≤1000000) (hi:i≤40000000) (Y:Num w va a) (B:a<2^(32*K)):
  Calls Tryz.prog 146 #[va,.int .i64 (i:Int)] w fun e w'=>e= .returned (.int .u64 ((a/2^i%2:Nat):Int))∧G w w':=by
 obtain⟨l,M,C,rfl⟩:=Y;have I:=eQ C B;have A:=M.1;obtain⟨pa,ca,rfl,c,E⟩:=fa M;have d:(i:Int)/32=((i/32:Nat):Int):=by omega
 have k:(i:Int)%32=((i%32:Nat):Int):=by omega
 have D:i=32*(i/32)+i%32:=by omega
 have F:=gJ A (i/32);have O:val l/2^i%2=l.getD (i/32) 0/2^(i%32)%2:=by
  have e:val l/2^i=val (l.drop (i/32))/2^(i%32):=by
   rw[F,bt,← ah,← D]
  rw[e];by_cases h:i/32<l.length
  ·rw[fb h];show (l.getD (i/32) 0+2^32*val (l.drop (i/32+1)))/2^(i%32)%2=_;have h2:2^32*val (l.drop (i/32+1))=2^(i%32)*(2*(2^(31-i%32)*val (l.drop (i/32+1)))):=by
    rw[← ak 2,← dJ,← ak,← ah,show i%32+(31-i%32+1)=32 from by omega]
   rw[h2,cQ _ _ (af _),db]
  ·rw[aQ eK,ad,aZ eK];simp [val]
 rw[O];have hs:((i%32:Nat):Int)≤31:=by omega
 have m:(i:Int)≤40000000:=by omega
 have am:IntKind.u64.wrap (i:Int)=i:=by rw[IntKind.wrap_u64];omega
 have R:=eO A (i/32);generalize S:i/32=q at *;generalize L:i%32=s at *;have hand:=fun x (h:x<2^32)=>and_one x h;by_cases J:q<l.length
 ·obtain⟨b1,o1,rfl,X,Z⟩:=E q J;have h3:l.getD q 0/2^s<2^32:=aq (aN _ _) R;have h4:=and_one _ h3;have an:((l.getD q 0:Nat):Int)≤4294967295:=by omega
  generalize N:l.length=j at *;generalize l.getD q 0=x at *;have h5:(x:Int)/2^s=((x/2^s:Nat):Int):=by push_cast;rfl
  have h6:((x/2^s:Nat):Int)≤4294967295:=by omega
  generalize x/2^s=y at *;have h7:((y%2:Nat):Int)≤1:=by omega
  have h8:bits .and .u64 (y:Int) 1=((y%2:Nat):Int):=by
   have:=u64_and_nat y 1 eK eK;rw[Nat.and_one_is_mod] at this;exact this
  generalize y%2=z at *;have t0:decide (j≤q)=false:=by simp;omega
  have t1:decide ((i:Int)<0)=false:=by simp
  have o:(j:Int)≤1000000:=by omega
  have al:(q:Int)≤1250000:=by omega
  have U:(q:Int)<j:=by omega
  clear O F D R h3 C M A I B E hand S L N;go_enter Tryz.func146,Tryz.ntmps146;go_wp2_with fail;go_ret;exact⟨rfl,ag _⟩
 ·have W:l.getD q 0=0:=by rw[ad,aZ eK];rfl
  rw[W];generalize N:l.length=j at *;have t0:decide (j≤q)=true:=by simp;omega
  have t1:decide ((i:Int)<0)=false:=by simp
  clear O F D R C M A I B E hand S L N W J;go_enter Tryz.func146,Tryz.ntmps146;go_wp2_with fail;go_ret;exact⟨by simp,ag _⟩
end Go.Proofs.YtfnkkkcojnffdaaGreatDoor
namespace Go.Proofs.YtfnkkkcojnffdaaGreatDoor
theorem mF {a b:Int}:cmpI a b=(a-b).sign:=by
 unfold cmpI;split
 ·rw[dI eK]
 ·split
  ·rw[show a-b=0 from by omega];rfl
  ·rw[dz eK]
theorem rJ {a b:Int} {k:Nat} (A:0<k):cmpI (a*(k:Int)) (b*(k:Int))=cmpI a b:=by
 rw[mF,mF,← df,Int.sign_mul,dz (show (0:Int)<k by omega),dN]
end Go.Proofs.YtfnkkkcojnffdaaGreatDoor
namespace Go.Proofs.YtfnkkkcojnffdaaGreatDoor
open Go.ChangeShapes Go.WideShapes Go.ChangeAt Go.RowKit
open BN
/-- What a writing method leaves of a cell that it doesn't write. -/
theorem SetTo.cell {w E:World} {b o:Nat} {s:Int} {e:Ending} (h:SetTo w b o s e E) {p:Addr} {v:Value} (F:p.block<w.heap.size) (D:p.spot=none) (hv:w.cell? p=some v) (A:p.block≠b∨(p.off≠o∧p.off≠o+1)):E.cell? p=some v:=by
 obtain⟨-,h1,h2,-⟩:=h;by_cases hb:p.block=b
 ·obtain⟨I,C,J⟩:=p;simp only at hb D A;subst hb D;have B:C≠o∧C≠o+1:=by rcases A with A|A;exact absurd rfl A;exact A
  rw[h2.1 C B.1 B.2];exact hv
 ·rw[← hv];exact World.cell?_of_block (h1.block p.block F (fun e=>hb (bO e)))
theorem SetTo.frozen {w B:World} {b o:Nat} {s:Int} {e:Ending} (h:SetTo w b o s e B) {p:Addr} {v:Bool} (C:p.block<w.heap.size) (A:p.spot=none) (hv:w.frozen? p=v):B.frozen? p=v:=by
 obtain⟨-,h1,h2,-⟩:=h;by_cases hb:p.block=b
 ·obtain⟨E,D,F⟩:=p;simp only at hb A;subst hb A;rw[h2.2 D];exact hv
 ·rw[← hv];exact World.frozen?_of_block (h1.block p.block C (fun e=>hb (bO e)))
theorem SetTo.size {w A:World} {b o:Nat} {s:Int} {e:Ending} (h:SetTo w b o s e A):w.heap.size≤A.heap.size:=h.2.1.size
theorem SetTo.is {w A:World} {b o:Nat} {s:Int} {e:Ending} (h:SetTo w b o s e A):IntIs A b o s:=h.2.2.2
theorem SetTo.num {w I:World} {b o:Nat} {R s:Int} {e:Ending} (O:IntIs w b o R) (h:SetTo w b o s e I) {v:Value} {n:Nat} (M:Num w v n):Num I v n:=by
 obtain⟨n0,v0,a0,⟨c1,J,-,-⟩,E,-,-⟩:=O;obtain⟨l,⟨h1,h2⟩,h3⟩:=M;refine⟨l,⟨h1,?_⟩,h3⟩;rcases h2 with h2|⟨D,F,c,K,L,hb,N⟩
 ·exact Or.inl h2
 ·refine Or.inr ⟨D,F,c,K,L,ae hb h.size,fun i hi=> ?_⟩;have A:=N i hi;refine h.cell (p:=⟨D,F+i,none⟩) hb rfl A ?_;by_cases B:D=b
  ·refine Or.inr ⟨fun C=> ?_,fun C=> ?_⟩
   ·simp only at C;subst B;rw[C,c1] at A;cases A
   ·simp only at C;subst B;rw[C,J] at A;exact iu E _ _ (bO A)
  ·exact Or.inl B
/-- Another Int stands still. -/
theorem SetTo.keep {w F:World} {b o C D:Nat} {L s E:Int} {e:Ending} (K:IntIs w b o L) (h:SetTo w b o s e F) (J:IntIs w C D E) (A:C<w.heap.size) (B:C≠b∨D+2≤o∨o+2≤D):IntIs F C D E:=by
 obtain⟨n,v,a,⟨c1,I,f1,f2⟩,hv,h1,h2⟩:=J;refine⟨n,v,a,⟨h.cell A rfl c1 ?_,h.cell A rfl I ?_,h.frozen A rfl f1,h.frozen A rfl f2⟩,h.num K hv,h1,h2⟩
 ·rcases B with h|h
  ·exact Or.inl h
  ·exact Or.inr ⟨by simp only;omega,by simp only;omega⟩
 ·rcases B with h|h
  ·exact Or.inl h
  ·exact Or.inr ⟨by simp only;omega,by simp only;omega⟩
/-- Behind it, nothing of an elder world has turned, where the block is newer. -/
theorem SetTo.fresh {w0 w A:World} {b o:Nat} {s:Int} {e:Ending} (g:G w0 w) (h:SetTo w b o s e A) (hb:w0.heap.size≤b):G w0 A:=GX.fresh g h.2.1 hb
/-- What QuoRem leaves behind. -/
def QR (w:World) (b o A B:Nat) (F sr:Int) (e:Ending) (I:World):Prop:=
 e= .returned (.tuple #[.pointer (some ⟨b,o,none⟩),.pointer (some ⟨A,B,none⟩)])∧∃ C D E,SetTo w b o F D C∧SetTo C A B sr E I
theorem q3o (n A:Bool) (a B:Nat):sg (!(n==A)) (a/B)=Int.tdiv (sg n a) (sg A B):=by
 unfold sg;cases n<;>cases A<;>simp [Int.tdiv_neg,Int.neg_tdiv]
theorem q3p (n B:Bool) (a A:Nat):sg n (a%A)=Int.tmod (sg n a) (sg B A):=by
 unfold sg;cases n<;>cases B<;>simp [Int.tmod_neg,Int.neg_tmod]<;>exact(cY eK).symm
theorem q0J (w:World) (b o bx c M d N R:Nat) (s0 s3 sx S:Int) (K:Nat) (X:K≤300000) (ci:sx.natAbs<2^(32*K)) (cm:S.natAbs<2^(32*K)) (cl:S≠0) (hb:b<w.heap.size) (al:N<w.heap.size) (am:bx<w.heap.size) (an:M<w.heap.size)
  (hz:IntIs w b o s0) (hr:IntIs w N R s3) (bi:N≠b∨R+2≤o∨o+2≤R) (hx:IntIs w bx c sx) (hy:IntIs w M d S):
  Calls Tryz.prog 129 #[.pointer (some ⟨b,o,none⟩),.pointer (some ⟨bx,c,none⟩),.pointer (some ⟨M,d,none⟩),.pointer (some ⟨N,R,none⟩)] w (QR w b o N R (Int.tdiv sx S) (Int.tmod sx S)):=by
 obtain⟨n,v,a,⟨c1,c2,-,-⟩,hv,h1,-⟩:=hx;obtain⟨n',v',y,⟨c3,c4,-,-⟩,bs,h2,-⟩:=hy;have ha:=fP h1;have ce:=fP h2;have HW:Hid (∀ I,G w I→_):=fun I g=>pO I v v' a y K X (hv.G g) (bs.G g) eK eK eK;have HZ:=hi9 hz;have HR:=hi9 hr;have HS:Hid (sg (!(n==n')) (a/y)=Int.tdiv sx S):=by rw[q3o,h1,h2];exact rfl
 have cb:Hid (sg n (a%y)=Int.tmod sx S):=by rw[q3p n n',h1,h2];exact rfl
 have bz:=hi9 bi;generalize a/y=dq at *;generalize a%y=dr at *;clear hz hr ci cm hv bs h1 h2 ha ce cl bi;go_enter Tryz.func129,Tryz.ntmps129;go_wp2_with fail;refine eV eM eM ?_;intro W hW;have bl:=ik (w:=W) ⟨bx,c,none⟩ (.bool n);have bn:=ik (w:=W) ⟨M,d,none⟩ (.bool n');clear hW
 repeat (go_big_quiet_step (fail))
 refine wpQuiet_nil ?_;clear bl bn;intro I E;have d2:=E.cell (p:=⟨bx,c+1,none⟩) am c2;have d4:=E.cell (p:=⟨M,d+1,none⟩) an c4;have cn:bx<I.heap.size:=dp E am;have cr:M<I.heap.size:=dp E an;clear c1 c2 c3 c4;go_wp2_with fail;have cd:Hid (∀ U,G I U→_):=fun U g=>HW.out U (aa E g);refine fN 13 (G I) eM (by first|exact(ag _).drew|exact G.drew kg) ?_;intro L;have C:Hid (∀ B,G I B→B.cell? ⟨bx,c+1,none⟩=some (v)∧B.cell? ⟨M,d+1,none⟩=some (v')):=fun B A=>⟨kh ⟨bx,c+1,none⟩ v A,kh ⟨M,d+1,none⟩ v' A⟩;refine eL 0 (v:= ?_) rfl eM (fun _ _ _ h=>h) rfl ?_ ‹_› ?_;rotate_left
 ·intro B A;obtain⟨eb,ec⟩:=C.out B A;exact fE
 try simp only[aput,List.set]
 refine eL 1 (v:= ?_) rfl eM (fun _ _ _ h=>h) rfl ?_ ‹_› ?_;rotate_left
 ·intro B A;obtain⟨ed,ee⟩:=C.out B A;exact fE
 try simp only[aput,List.set]
 refine eL 2 (v:= ?_) rfl eM (fun _ _ _ h=>h) rfl ?_ ‹_› ?_;rotate_left
 ·intro B A;obtain⟨em,en⟩:=C.out B A;exact fE
 try simp only[aput,List.set]
 refine eL 3 (v:= ?_) rfl eM (fun _ _ _ h=>h) rfl ?_ ‹_› ?_;rotate_left
 ·intro B A;obtain⟨ep,fp⟩:=C.out B A;exact fE
 try simp only[aput,List.set]
 refine eL 4 (v:= ?_) rfl eM (fun _ _ _ h=>h) rfl ?_ ‹_› ?_;rotate_left
 ·intro B A;obtain⟨cs,cx⟩:=C.out B A;exact fE
 try simp only[aput,List.set]
 refine eL 5 (v:= ?_) rfl eM (fun _ _ _ h=>h) rfl ?_ ‹_› ?_;rotate_left
 ·intro B A;obtain⟨cy,cz⟩:=C.out B A;exact fE
 try simp only[aput,List.set]
 refine eL 6 (v:= ?_) rfl eM (fun _ _ _ h=>h) rfl ?_ ‹_› ?_;rotate_left
 ·intro B A;obtain⟨dk,dl⟩:=C.out B A;exact fE
 try simp only[aput,List.set]
 refine eL 7 (v:= ?_) rfl eM (fun _ _ _ h=>h) rfl ?_ ‹_› ?_;rotate_left
 ·intro B A;obtain⟨ds,ea⟩:=C.out B A;exact fE
 try simp only[aput,List.set]
 clear C;refine eN (i:=8) eM rfl ?_;intro K X;go_simp;go_wp2_with (go_at_call 159;refine Calls.mono (P:=Tryz.prog) (cd.out _ L) ?_;rintro e U ⟨vq,vr,rfl,Y,ao,ap⟩);refine X.out _ _ (Or.inr (aa L Y)) ?_;clear X K;have O:G I U:=aa L Y;refine eL 9 (v:= ?_) rfl eM (fun _ _ _ h=>h) rfl ?_ ‹_› ?_;rotate_left
 ·exact kQ
 try simp only[aput,List.set]
 refine eL 10 (v:= ?_) rfl eM (fun _ _ _ h=>h) rfl ?_ ‹_› ?_;rotate_left
 ·exact kQ
 try simp only[aput,List.set]
 refine eL 11 (v:= ?_) rfl eM (fun _ _ _ h=>h) rfl ?_ ‹_› ?_;rotate_left
 ·exact kQ
 try simp only[aput,List.set]
 refine eL 12 (v:= ?_) rfl eM (fun _ _ _ h=>h) rfl ?_ ‹_› ?_;rotate_left
 ·exact kQ
 try simp only[aput,List.set]
 refine eN (i:=13) eM rfl ?_;intro K X;go_simp;refine X.out _ _ (Or.inl ff) ?_;clear X K;refine fh eM ?_ _;have J:G w U:=aa E O;have bu:=hi9 ao;have bv:=hi9 ap;clear L O Y d2 d4 ao ap;have s:=cD HZ.out hb J;have k:=cD HR.out al J;have F:Hid _:=s;have m:Hid _:=k;clear s k;go_wp2_with fail;refine Calls.mono (P:=Tryz.prog) (gq U b o (!(n==n')) s0 _ _ F.out bu.out) ?_;rintro e w3 ⟨rfl,k1,k2,k3⟩;have D:SetTo U b o (sg (!(n==n')) dq) (.returned (.pointer (some ⟨b,o,none⟩))) w3:=⟨rfl,k1,k2,k3⟩;have j:Hid _:=SetTo.num F.out D bv.out;have ca:=hi9 (SetTo.keep F.out D m.out (dp J al) bz.out);have Z:=SetTo.after hb J D;rw[HS.out] at Z;have cc:Hid (SetTo w b o (Int.tdiv sx S) (.returned (.pointer (some ⟨b,o,none⟩))) w3):=Z;clear k1 k2 k3 D Z;go_wp2_with fail;refine Calls.mono (P:=Tryz.prog) (gq w3 N R n s3 _ _ ca.out j.out) ?_;rintro e w4 ⟨rfl,k1,k2,k3⟩;have bq:SetTo w3 N R (sg n dr) (.returned (.pointer (some ⟨N,R,none⟩))) w4:=⟨rfl,k1,k2,k3⟩;rw[cb.out] at bq;clear k1 k2 k3;go_wp2_with fail
 go_ret2
 exact⟨rfl,w3,_,_,cc.out,bq⟩
theorem jz {a k:Nat} (A:a≠0) (h:a%2^k=0):2^k≤a:=Nat.le_of_dvd eK (dQ h)
/-- A new Int, since w0. -/
def NI (w0 w:World) (p:Nat) (s:Int):Prop:=w0.heap.size≤p∧p<w.heap.size∧IntIs w p 0 s
theorem NI.G {w0 w A:World} {p:Nat} {s:Int} (h:NI w0 w p s) (g:G w A):NI w0 A p s:=⟨h.1,ae h.2.1 g.size,h.2.2.G h.2.1 g⟩
theorem NI.new {w0 w:World} (g:Go.Proofs.YtfnkkkcojnffdaaGreatDoor.G w0 w) (t:TypeId):NI w0 (w.alloc (.cells #[.bool false,.slice none 0 0] t)) w.heap.size 0:=⟨g.size,by simp,pY w t⟩
theorem eu:type_of% @NI.new:= @NI.new
/-- What a method that sets a new Int leaves behind. -/
def Step (w0 w:World) (p:Nat) (s:Int) (e:Ending) (A:World):Prop:=
 e= .returned (.pointer (some ⟨p,0,none⟩))∧G w0 A∧NI w0 A p s∧w.heap.size≤A.heap.size∧∀ B C,B≠p→NI w0 w B C→NI w0 A B C
theorem SetTo.step {w0 w:World} {p:Nat} {E s:Int} {e:Ending} {D:World} (g:G w0 w) (B:NI w0 w p E) (h:SetTo w p 0 s e D):Step w0 w p s e D:=
 ⟨h.1,h.fresh g B.1,⟨B.1,ae B.2.1 h.size,h.is⟩,h.size,fun _ _ C A=>⟨A.1,ae A.2.1 h.size,SetTo.keep B.2.2 h A.2.2 A.2.1 (Or.inl C)⟩⟩
theorem cf:type_of% @SetTo.step:= @SetTo.step
theorem Step.to {w0 w:World} {p:Nat} {s:Int} {e:Ending} {A:World} (h:Step w0 w p s e A):e= .returned (.pointer (some ⟨p,0,none⟩)):=h.1
end Go.Proofs.YtfnkkkcojnffdaaGreatDoor
namespace Go.Proofs.YtfnkkkcojnffdaaGreatDoor
open Go.RowKit
open BN
/-- N / D, rounded to the nearest whole number, of two as near to the even one. -/
def ic (N D:Nat):Nat:=N/D+(if D<2*(N%D)∨(2*(N%D)=D∧N/D%2=1) then 1 else 0)
/-- A / B in units of 2^p. -/
def upP (A:Nat) (p:Int):Nat:=A*2^(-p).toNat
def loP (B:Nat) (p:Int):Nat:=B*2^p.toNat
def q0n (A B:Nat) (p:Int):Nat:=ic (upP A p) (loP B p)
theorem blen_le_iff {a k:Nat}:blen a≤k↔a<2^k:=by
 rcases bo a with rfl|B
 ·have:blen 0=0:=rfl;rw[this];exact⟨fun _=>af k,fun _=>bC _⟩
 ·obtain⟨h1,h2,h3⟩:=jl (a:=a) eK;constructor
  ·intro h;exact ae h3 (ai eK h)
  ·intro h;have A:2^(blen a-1)<2^k:=aq h2 h;have:=(aY (by omega:1<2)).1 A;omega
end Go.Proofs.YtfnkkkcojnffdaaGreatDoor
namespace Go.Proofs.YtfnkkkcojnffdaaGreatDoor
open Go.ChangeShapes Go.WideShapes Go.ChangeAt Go.RowKit
open BN
theorem q0W {n:Bool} {a:Nat}:sg (!n) a= -sg n a:=by unfold sg;cases n<;>simp
theorem kz (w:World) (b o bx I:Nat) (s sx:Int) (K:Nat) (D:K≤1000000) (M:sx.natAbs<2^(32*K)) (hb:b<w.heap.size) (al:bx<w.heap.size)
  (m:IntIs w b o s) (hx:IntIs w bx I sx):
  Calls Tryz.prog 66 #[.pointer (some ⟨b,o,none⟩),.pointer (some ⟨bx,I,none⟩)] w (SetTo w b o (-sx)):=by
 obtain⟨n,v,a,⟨c1,c2,-,-⟩,hv,h1,-⟩:=hx;have ha:=fP h1;have HW:Hid (∀ N,G w N→_):=fun N g=>kC N v a K D (hv.G g) eK;have HZ:=hi9 m;have y:Hid (sg (!n) a= -sx):=by show sg (!n) a= -sx;rw[q0W,h1]
 clear m M hv h1 ha;go_enter Tryz.func66,Tryz.ntmps66;go_wp2_with fail;refine fN 11 (G w) eM (by first|exact(ag _).drew|exact G.drew kg) ?_;intro E;have C:Hid (∀ B,G w B→B.cell? ⟨bx,I,none⟩=some (.bool n)∧B.cell? ⟨bx,I+1,none⟩=some (v)):=fun B A=>⟨kh ⟨bx,I,none⟩ (.bool n) A,kh ⟨bx,I+1,none⟩ v A⟩;refine eL 0 (v:= ?_) rfl eM (fun _ _ _ h=>h) rfl ?_ ‹_› ?_;rotate_left
 ·intro B A;obtain⟨am,an⟩:=C.out B A;exact fE
 try simp only[aput,List.set]
 refine eL 1 (v:= ?_) rfl eM (fun _ _ _ h=>h) rfl ?_ ‹_› ?_;rotate_left
 ·intro B A;obtain⟨ao,ap⟩:=C.out B A;exact fE
 try simp only[aput,List.set]
 refine eL 2 (v:= ?_) rfl eM (fun _ _ _ h=>h) rfl ?_ ‹_› ?_;rotate_left
 ·intro B A;obtain⟨bi,bl⟩:=C.out B A;exact fE
 try simp only[aput,List.set]
 refine eL 3 (v:= ?_) rfl eM (fun _ _ _ h=>h) rfl ?_ ‹_› ?_;rotate_left
 ·intro B A;obtain⟨bn,bq⟩:=C.out B A;exact fE
 try simp only[aput,List.set]
 refine eL 4 (v:= ?_) rfl eM (fun _ _ _ h=>h) rfl ?_ ‹_› ?_;rotate_left
 ·intro B A;obtain⟨O,R⟩:=C.out B A;exact fE
 try simp only[aput,List.set]
 refine eL 5 (v:= ?_) rfl eM (fun _ _ _ h=>h) rfl ?_ ‹_› ?_;rotate_left
 ·intro B A;obtain⟨S,U⟩:=C.out B A;exact fE
 try simp only[aput,List.set]
 refine eL 6 (v:= ?_) rfl eM (fun _ _ _ h=>h) rfl ?_ ‹_› ?_;rotate_left
 ·intro B A;obtain⟨W,X⟩:=C.out B A;exact fE
 try simp only[aput,List.set]
 refine eL 7 (v:= ?_) rfl eM (fun _ _ _ h=>h) rfl ?_ ‹_› ?_;rotate_left
 ·intro B A;obtain⟨Y,Z⟩:=C.out B A;exact fE
 try simp only[aput,List.set]
 refine eL 8 (v:= ?_) rfl eM (fun _ _ _ h=>h) rfl ?_ ‹_› ?_;rotate_left
 ·intro B A;obtain⟨c,d⟩:=C.out B A;exact fE
 try simp only[aput,List.set]
 refine eL 9 (v:= ?_) rfl eM (fun _ _ _ h=>h) rfl ?_ ‹_› ?_;rotate_left
 ·intro B A;obtain⟨j,k⟩:=C.out B A;exact fE
 try simp only[aput,List.set]
 clear C;refine eN (i:=10) eM rfl ?_;intro K D;go_simp;go_wp2_with (go_at_call 124;refine Calls.mono (P:=Tryz.prog) (HW.out _ E) ?_;rintro e w2 ⟨v1,rfl,F,L⟩);refine D.out _ _ (Or.inr (aa E F)) ?_;clear D K;refine eN (i:=11) eM rfl ?_;intro K D;go_simp;go_wp2_with (go_at_call 113;refine Calls.mono (P:=Tryz.prog) (fQ (w0:=w) hb (aa E F) (gq _ b o _ s _ _ (cD HZ.out hb (aa E F)) L)) ?_;rintro e w3 ⟨rfl,J⟩);refine D.out _ _ (Or.inl ff) ?_;clear D K;refine eN (i:=12) eM rfl ?_;intro K D;go_simp;refine D.out _ _ (Or.inl ff) ?_;clear D K;refine fh eM ?_ _;rw[y.out] at J;go_wp2_with fail;go_ret;exact J
/-- At block b lies a Rat: its two Ints (a lower one of 0 stands for 1). -/
def RatIs (w:World) (b:Nat) (sa A:Int):Prop:=IntIs w b 0 sa∧IntIs w b 2 A
theorem jX (w:World) (t:TypeId):RatIs (w.alloc (.cells #[.bool false,.slice none 0 0,.bool false,.slice none 0 0] t)) w.heap.size 0 0:=by
 refine⟨⟨false,.slice none 0 0,0,⟨?_,?_,World.frozen?_alloc_at _ _ _ _ rfl,World.frozen?_alloc_at _ _ _ _ rfl⟩,gF _ _ _,rfl,fun h=>by cases h⟩,
  ⟨false,.slice none 0 0,0,⟨?_,?_,World.frozen?_alloc_at _ _ _ _ rfl,World.frozen?_alloc_at _ _ _ _ rfl⟩,gF _ _ _,rfl,fun h=>by cases h⟩⟩
 all_goals rw[World.cell?_alloc_at _ _ _ _ rfl];rfl
theorem RatIs.G {w B:World} {b:Nat} {sa A:Int} (h:RatIs w b sa A) (hb:b<w.heap.size) (g:G w B):RatIs B b sa A:=⟨h.1.G hb g,h.2.G hb g⟩
theorem qi (w:World) (b:Nat) (sa C:Int) (h:RatIs w b sa C):
  Calls Tryz.prog 22 #[.pointer (some ⟨b,0,none⟩)] w fun e D=>e= .returned (.int .i64 sa.sign)∧G w D:=by
 have B:=hi9 (q29 w b 0 sa h.1);generalize sa.sign=s at *;clear h;go_enter Tryz.func22,Tryz.ntmps22;go_wp2_with fail;refine Calls.mono (P:=Tryz.prog) B.out ?_;rintro e E ⟨rfl,A⟩;go_wp2_with fail;go_ret;exact⟨rfl,A⟩
/-- den: where the lower part is laid, it is handed back itself. -/
theorem j0 (w:World) (b:Nat) (sa F:Int) (D:F≠0) (h:RatIs w b sa F):
  Calls Tryz.prog 55 #[.pointer (some ⟨b,0,none⟩)] w fun e K=>e= .returned (.pointer (some ⟨b,2,none⟩))∧G w K:=by
 obtain⟨-,n,v,a,⟨c1,L,-,-⟩,⟨l,E,B,A⟩,h1,-⟩:=h;have J:=fP h1;obtain⟨p,c,rfl,-,-⟩:=fa E;have C:l.length≠0:=by
  intro I;rw[aH I] at A;have:a=0:=A.symm;omega
 have t0:((l.length:Int)==0)=false:=by simp;intro h;exact C (by rw[h];rfl)
 generalize l.length=j at *;clear E B A h1 J D;go_enter Tryz.func55,Tryz.ntmps55;go_wp2_with fail;go_ret;exact⟨rfl,ag _⟩
theorem q17 (w:World) (b o bx L J M:Nat) (c sx U:Int) (K:Nat) (D:K≤1000000) (Y:sx.natAbs<2^(32*K)) (Z:U.natAbs<2^(32*K)) (hb:b<w.heap.size) (hn:bx<w.heap.size) (ho:J<w.heap.size)
  (hz:IntIs w b o c) (hx:IntIs w bx L sx) (hy:IntIs w J M U):
  Calls Tryz.prog 57 #[.pointer (some ⟨b,o,none⟩),.pointer (some ⟨bx,L,none⟩),.pointer (some ⟨J,M,none⟩)] w (SetTo w b o (sx-U)):=by
 obtain⟨n,v,a,⟨c1,c2,-,-⟩,hv,h1,-⟩:=hx;obtain⟨S,d,W,⟨c3,c4,-,-⟩,R,h2,-⟩:=hy;have ha:=fP h1;have X:=fP h2;have HW:Hid (∀ k,G w k→_):=fun k g=>q2y k n (!S) v d a W K D (hv.G g) (R.G g) eK eK;have s:=hi9 hz;have m:Hid (sg n a+sg (!S) W=sx-U):=by show sg n a+sg (!S) W=sx-U;rw[q0W,h1,h2];omega
 clear hz Y Z hv R h1 h2 ha X;go_enter Tryz.func57,Tryz.ntmps57;go_wp2_with fail;refine fN 21 (G w) eM (by first|exact(ag _).drew|exact G.drew kg) ?_;intro E;have C:Hid (∀ B,G w B→B.cell? ⟨bx,L,none⟩=some (.bool n)∧B.cell? ⟨bx,L+1,none⟩=some (v)∧B.cell? ⟨J,M,none⟩=some (.bool S)∧B.cell? ⟨J,M+1,none⟩=some (d)):=fun B A=>⟨kh ⟨bx,L,none⟩ (.bool n) A,kh ⟨bx,L+1,none⟩ v A,kh ⟨J,M,none⟩ (.bool S) A,kh ⟨J,M+1,none⟩ d A⟩;refine eL 0 (v:= ?_) rfl eM (fun _ _ _ h=>h) rfl ?_ ‹_› ?_;rotate_left
 ·intro B A;obtain⟨hp,hq,hr,hs⟩:=C.out B A;exact fE
 try simp only[aput,List.set]
 refine eL 1 (v:= ?_) rfl eM (fun _ _ _ h=>h) rfl ?_ ‹_› ?_;rotate_left
 ·intro B A;obtain⟨ht,hw,ia,ib⟩:=C.out B A;exact fE
 try simp only[aput,List.set]
 refine eL 2 (v:= ?_) rfl eM (fun _ _ _ h=>h) rfl ?_ ‹_› ?_;rotate_left
 ·intro B A;obtain⟨y,al,am,an⟩:=C.out B A;exact fE
 try simp only[aput,List.set]
 refine eL 3 (v:= ?_) rfl eM (fun _ _ _ h=>h) rfl ?_ ‹_› ?_;rotate_left
 ·intro B A;obtain⟨ao,ap,bi,bl⟩:=C.out B A;exact fE
 try simp only[aput,List.set]
 refine eL 4 (v:= ?_) rfl eM (fun _ _ _ h=>h) rfl ?_ ‹_› ?_;rotate_left
 ·intro B A;obtain⟨bn,bq,bs,bu⟩:=C.out B A;exact fE
 try simp only[aput,List.set]
 refine eL 5 (v:= ?_) rfl eM (fun _ _ _ h=>h) rfl ?_ ‹_› ?_;rotate_left
 ·intro B A;obtain⟨bv,bz,ca,cb⟩:=C.out B A;exact fE
 try simp only[aput,List.set]
 refine eL 6 (v:= ?_) rfl eM (fun _ _ _ h=>h) rfl ?_ ‹_› ?_;rotate_left
 ·intro B A;obtain⟨cc,cd,ce,ci⟩:=C.out B A;exact fE
 try simp only[aput,List.set]
 refine eL 7 (v:= ?_) rfl eM (fun _ _ _ h=>h) rfl ?_ ‹_› ?_;rotate_left
 ·intro B A;obtain⟨cl,cm,cn,cr⟩:=C.out B A;exact fE
 try simp only[aput,List.set]
 refine eL 8 (v:= ?_) rfl eM (fun _ _ _ h=>h) rfl ?_ ‹_› ?_;rotate_left
 ·intro B A;obtain⟨cs,cx,cy,cz⟩:=C.out B A;exact fE
 try simp only[aput,List.set]
 refine eL 9 (v:= ?_) rfl eM (fun _ _ _ h=>h) rfl ?_ ‹_› ?_;rotate_left
 ·intro B A;obtain⟨dk,dl,dq,dr⟩:=C.out B A;exact fE
 try simp only[aput,List.set]
 refine eL 10 (v:= ?_) rfl eM (fun _ _ _ h=>h) rfl ?_ ‹_› ?_;rotate_left
 ·intro B A;obtain⟨ds,ea,eb,ec⟩:=C.out B A;exact fE
 try simp only[aput,List.set]
 refine eL 11 (v:= ?_) rfl eM (fun _ _ _ h=>h) rfl ?_ ‹_› ?_;rotate_left
 ·intro B A;obtain⟨ed,ee,em,en⟩:=C.out B A;exact fE
 try simp only[aput,List.set]
 refine eL 12 (v:= ?_) rfl eM (fun _ _ _ h=>h) rfl ?_ ‹_› ?_;rotate_left
 ·intro B A;obtain⟨ep,fp,fr,fs⟩:=C.out B A;exact fE
 try simp only[aput,List.set]
 refine eL 13 (v:= ?_) rfl eM (fun _ _ _ h=>h) rfl ?_ ‹_› ?_;rotate_left
 ·intro B A;obtain⟨fv,ga,gd,gf⟩:=C.out B A;exact fE
 try simp only[aput,List.set]
 refine eL 14 (v:= ?_) rfl eM (fun _ _ _ h=>h) rfl ?_ ‹_› ?_;rotate_left
 ·intro B A;obtain⟨gg,gk,gl,gm⟩:=C.out B A;exact fE
 try simp only[aput,List.set]
 refine eL 15 (v:= ?_) rfl eM (fun _ _ _ h=>h) rfl ?_ ‹_› ?_;rotate_left
 ·intro B A;obtain⟨gn,gz,hc,hd⟩:=C.out B A;exact fE
 try simp only[aput,List.set]
 refine eL 16 (v:= ?_) rfl eM (fun _ _ _ h=>h) rfl ?_ ‹_› ?_;rotate_left
 ·intro B A;obtain⟨he,hf,hg,hh⟩:=C.out B A;exact fE
 try simp only[aput,List.set]
 refine eL 17 (v:= ?_) rfl eM (fun _ _ _ h=>h) rfl ?_ ‹_› ?_;rotate_left
 ·intro B A;obtain⟨hj,hk,hl,hm⟩:=C.out B A;exact fE
 try simp only[aput,List.set]
 clear C;refine eN (i:=18) eM rfl ?_;intro K D;go_simp;go_wp2_with (go_at_call 114;refine Calls.mono (P:=Tryz.prog) (HW.out _ E) ?_;rintro e w2 ⟨rn,v1,ra,rfl,F,N,O⟩);refine D.out _ _ (Or.inr (aa E F)) ?_;clear D K;refine fX (i:=19) (j:=20) eM rfl rfl ?_ ?_
 ·intro K D;go_simp;refine D.out _ _ (Or.inr (aa E F)) ?_;clear D K;refine eN (i:=20) eM rfl ?_;intro K D;go_simp;refine D.out _ _ (Or.inr (aa E F)) ?_;clear D K;refine eN (i:=21) eM rfl ?_;intro K D;go_simp;go_wp2_with (go_at_call 113;refine Calls.mono (P:=Tryz.prog) (fQ (w0:=w) hb (aa E F) (gq _ b o _ c _ _ (cD s.out hb (aa E F)) N)) ?_;rintro e w3 ⟨rfl,I⟩);refine D.out _ _ (Or.inl ff) ?_;clear D K;refine eN (i:=22) eM rfl ?_;intro K D;go_simp;refine D.out _ _ (Or.inl ff) ?_;clear D K;refine fh eM ?_ _;rw[O,m.out] at I;go_wp2_with fail;go_ret;exact I
 ·intro K D;go_simp;refine D.out _ _ (Or.inr (aa E F)) ?_;clear D K;refine eN (i:=19) eM rfl ?_;intro K D;go_simp;refine D.out _ _ (Or.inr (aa E F)) ?_;clear D K;refine eN (i:=21) eM rfl ?_;intro K D;go_simp;go_wp2_with (go_at_call 113;refine Calls.mono (P:=Tryz.prog) (fQ (w0:=w) hb (aa E F) (gq _ b o _ c _ _ (cD s.out hb (aa E F)) N)) ?_;rintro e w3 ⟨rfl,I⟩);refine D.out _ _ (Or.inl ff) ?_;clear D K;refine eN (i:=22) eM rfl ?_;intro K D;go_simp;refine D.out _ _ (Or.inl ff) ?_;clear D K;refine fh eM ?_ _;rw[O,m.out] at I;go_wp2_with fail;go_ret;exact I
theorem oO {w:World} {b o:Nat} {s:Int} (h:IntIs w b o s):w.cell? ⟨b,o,none⟩=some (.bool (decide (s<0))):=by
 obtain⟨n,v,a,⟨c1,-,-,-⟩,-,h1,h2⟩:=h;rw[c1,← h1];unfold sg;cases n
 ·simp
 ·have:=h2 rfl;simp;omega
theorem rS {x:Int} {y:Nat} (B:0<y):x/(y:Int)=if Int.tmod x y<0 then Int.tdiv x y-1 else Int.tdiv x y:=by
 have h1:=Int.tmod_add_mul_tdiv x y;have A:(0:Int)<y:=by omega
 have h2:=Int.tmod_lt_of_pos x A;have h3:=Int.lt_tmod_of_pos x A;generalize Int.tmod x y=m at *;generalize Int.tdiv x y=q at *;split
 ·have e:x=(m+y)+y*(q-1):=by rw[eB,dN];omega
  rw[e,Int.add_mul_ediv_left _ _ eK,Int.ediv_eq_zero_of_lt eK eK,Int.zero_add]
 ·have e:x=m+y*q:=by omega
  rw[e,Int.add_mul_ediv_left _ _ eK,Int.ediv_eq_zero_of_lt eK eK,Int.zero_add]
/-- A call hands back a new Int among others. -/
def jA (w0:World) (A C:Nat) (s:Int) (e:Ending) (B:World):Prop:=e= .returned (.tuple #[.pointer (some ⟨A,0,none⟩),.pointer (some ⟨C,0,none⟩)])∧G w0 B∧NI w0 B A s
set_option maxRecDepth 10000 in
theorem rQ (w0 w:World) (g:G w0 w) (C B L bx ox:Nat) (sx:Int) (A K:Nat) (hK:K≤200000) (Y:sx.natAbs<2^(32*K)) (o:A<2^(32*K)) (cx:0<A) (bv:bx<w0.heap.size) (hx:IntIs w0 bx ox sx)
  (I:NI w0 w C 0) (R:NI w0 w B 0) (s:NI w0 w L (A:Int)) (n1:B≠C) (n2:L≠C) (n3:L≠B):
  Calls Tryz.prog 73 #[.pointer (some ⟨C,0,none⟩),.pointer (some ⟨bx,ox,none⟩),.pointer (some ⟨L,0,none⟩),.pointer (some ⟨B,0,none⟩)] w (jA w0 C B (sx/(A:Int))):=by
 have d:(A:Int).natAbs<2^(32*K):=by rw[ar];exact o
 have ga:G w (w.alloc (.cells #[.bool false,.slice none 0 0] 43)):=(ag _).alloc _;have X:NI w0 (w.alloc (.cells #[.bool false,.slice none 0 0] 43)) w.heap.size 0:=eu g _;have g2:=aa g ga;have ci:=I.G ga;have bz:=R.G ga;have c:=s.G ga;have d1:C≠w.heap.size:=by have:=I.2.1;omega
 have d2:B≠w.heap.size:=by have:=R.2.1;omega
 have d3:L≠w.heap.size:=by have:=s.2.1;omega
 generalize cs:w.alloc (.cells #[.bool false,.slice none 0 0] 43)=w2 at *;generalize cr:w.heap.size=J at *;have j:=hi9 (jY w2 J 0 L 0 0 (A:Int) K eK d X.2.1 c.2.1 X.2.2 c.2.2);have bn:Hid (∀ e F,SetTo w2 J 0 (A:Int) e F→Step w0 w2 J (A:Int) e F):=fun e F h=>h.step g2 X;have ao:Hid (∀ U,G w0 U→NI w0 U C 0→NI w0 U B 0→NI w0 U L (A:Int)→_):=fun U g I R s=>q0J U C 0 bx ox L 0 B 0 0 0 sx (A:Int) K eK Y d eK I.2.1 R.2.1 (dp g bv) s.2.1 I.2.2 R.2.2 (Or.inl n1) (cD hx bv g) s.2.2;have W:Hid (sx/(A:Int)=if Int.tmod sx A<0 then Int.tdiv sx A-1 else Int.tdiv sx A):=rS cx;have cb:(Int.tdiv sx A).natAbs<2^(32*K):=by
  rw[Int.natAbs_tdiv];exact aq (aN _ _) Y
 have cc:(Int.tmod sx A).natAbs<2^(32*K):=by
  rw[Int.natAbs_tmod];exact aq (Nat.mod_le _ _) Y
 have bu:(1:Int).natAbs<2^(32*K):=by
  have:(2:Nat)^1≤2^(32*K):=ai eK (by
   rcases bo K with h|h
   ·subst h;simp at o;omega
   ·omega)
  show 1<_;omega
 have O:Hid (∀ D p,NI w0 D C (Int.tdiv sx A)→p<D.heap.size→IntIs D p 0 1→_):=fun D p I hp hi=>q17 D C 0 C 0 p 0 _ (Int.tdiv sx A) 1 K eK cb bu I.2.1 I.2.1 hp I.2.2 I.2.2 hi;have M:Hid (∀ D,NI w0 D B (Int.tmod sx A)→NI w0 D J (A:Int)→_):=fun D R hd=>rA D B 0 B 0 J 0 _ (Int.tmod sx A) (A:Int) K eK cc d R.2.1 R.2.1 hd.2.1 R.2.2 R.2.2 hd.2.2;have N:Hid (∀ D,Calls Tryz.prog 44 #[.int .i64 1] D (RetI D 1)):=fun D=>gY D 1 eK;have ce:decide ((A:Int)<0)=false:=decide_eq_false eK;generalize sx/(A:Int)=Z at *;generalize Int.tdiv sx A=q at *;generalize Int.tmod sx A=m at *;have HN:Hid (B≠C∧L≠C∧L≠B∧C≠J∧B≠J∧L≠J):=⟨n1,n2,n3,d1,d2,d3⟩;have bs:=hi9 ci;have am:=hi9 bz;have bq:=hi9 c;clear I R s hx Y o d n1 n2 n3 d1 d2 d3 X ci bz c cb cc bu;go_enter Tryz.func73,Tryz.ntmps73;go_wp2_with fail;clear cs cr ga g;refine eJ j.out ?_;intro e U S;obtain⟨rfl,g3,k3,-,i⟩:=bn.out e U S;obtain⟨n1,n2,n3,d1,d2,d3⟩:=HN.out;have z3:=i C 0 d1 bs.out;have m3:=i B 0 d2 am.out;have y3:=i L _ d3 bq.out;have an:=hi9 (ao.out U g3 z3 m3 y3);have ap:Hid (∀ e F,QR U C 0 B 0 q m e F→e= .returned (.tuple #[.pointer (some ⟨C,0,none⟩),.pointer (some ⟨B,0,none⟩)])∧G w0 F∧NI w0 F C q∧NI w0 F B m∧NI w0 F J (A:Int)):=by
  rintro e F ⟨e0,w4,e1,e2,s1,s2⟩;obtain⟨-,a2,a3,-,a4⟩:=s1.step g3 z3;have m4:=a4 B 0 n1 m3;have d4:=a4 J _ (bK d1) k3;obtain⟨-,b2,b3,-,b4⟩:=s2.step a2 m4;exact⟨e0,b2,b4 C q (bK n1) a3,b3,b4 J _ (bK d2) d4⟩
 clear j bn S i z3 m3 y3 ao bs am bq g2 g3 k3;go_wp2_with fail;refine eJ an.out ?_;intro e w5 S;obtain⟨rfl,g5,z5,m5,k⟩:=ap.out e w5 S;have Z5:Hid (NI w0 w5 C q):=z5;have M5:Hid (NI w0 w5 B m):=m5;have D5:Hid (NI w0 w5 J (A:Int)):=k;have cm:=oO m5.2.2;have cd:=oO k.2.2;rw[ce] at cd;clear S an ap z5 m5 k ce;by_cases E:m<0
 ·have I:Z=q-1:=by rw[W.out,if_pos E]
  have HZ:=hi9 I;rw[decide_eq_true E] at cm;clear E I W;go_wp2_with fail;refine eJ (N.out w5) ?_;rintro e D ⟨p,rfl,g6,cn,ca,hi⟩;have z6:=Z5.out.G g6;have M6:Hid (NI w0 D B m):=M5.out.G g6;have D6:Hid (NI w0 D J (A:Int)):=D5.out.G g6;have cl:=aa g5 g6;have bi:=hi9 (O.out D p z6 ca hi);have bl:Hid (∀ e F,SetTo D C 0 (q-1) e F→Step w0 D C (q-1) e F):=fun e F h=>h.step cl z6;clear N O hi cn ca z6 Z5 M5 D5;go_wp2_with fail;refine eJ bi.out ?_;intro e w7 S;obtain⟨rfl,g7,z7,-,k7⟩:=bl.out e w7 S;have m7:=k7 B m n1 M6.out;have d7:=k7 J _ (bK d1) D6.out;have y:=hi9 (M.out w7 m7 d7);have al:Hid (∀ e F,SetTo w7 B 0 (m+A) e F→Step w0 w7 B (m+A) e F):=fun e F h=>h.step g7 m7;have Z7:=hi9 z7;clear M bi bl S k7 m7 d7 z7 M6 D6;go_wp2_with fail;refine eJ y.out ?_;intro e w8 S;obtain⟨rfl,g8,-,-,k8⟩:=al.out e w8 S;have z8:=k8 C _ (bK n1) Z7.out;rw[← HZ.out] at z8;have Z8:=hi9 z8;clear y al S k8 z8 Z7;go_wp2_with fail
  go_ret2
  exact⟨rfl,g8,Z8.out⟩
 ·have I:Z=q:=by rw[W.out,if_neg E]
  subst I;rw[decide_eq_false E] at cm;clear E W O M N;go_wp2_with fail
  go_ret2
  exact⟨rfl,g5,Z5.out⟩
theorem q2L (w0 w:World) (g:G w0 w) (A J bx O:Nat) (sx:Int) (B K:Nat) (X:K≤200000) (C:sx.natAbs<2^(32*K)) (E:B<2^(32*K)) (D:0<B) (L:bx<w0.heap.size) (S:IntIs w0 bx O sx)
  (N:NI w0 w A 0) (M:NI w0 w J (B:Int)) (d:J≠A):
  Calls Tryz.prog 26 #[.pointer (some ⟨A,0,none⟩),.pointer (some ⟨bx,O,none⟩),.pointer (some ⟨J,0,none⟩)] w fun e U=>e= .returned (.pointer (some ⟨A,0,none⟩))∧G w0 U∧NI w0 U A (sx/(B:Int)):=by
 have I:G w (w.alloc (.cells #[.bool false,.slice none 0 0] 43)):=(ag _).alloc _;have R:Hid _:=rQ w0 (w.alloc (.cells #[.bool false,.slice none 0 0] 43)) (aa g I) A w.heap.size J bx O sx B K X C E D L S (N.G I) (eu g _) (M.G I) (by have:=N.2.1;omega) d (by have:=M.2.1;omega);generalize sx/(B:Int)=Z at *;generalize c:w.alloc (.cells #[.bool false,.slice none 0 0] 43)=k at *;generalize Y:w.heap.size=j at *;clear N M S C E D I g;go_enter Tryz.func26,Tryz.ntmps26;go_wp2_with fail;refine eJ R.out ?_;rintro e i ⟨rfl,g3,F⟩;have W:Hid (NI w0 i A Z):=F;clear F R;go_wp2_with fail;go_ret;exact⟨rfl,g3,W.out⟩
theorem ns (n:Nat):n<2^blen n:=by
 unfold blen;split
 ·omega
 ·rename_i h
  exact(cH h).1 eK
/-- What the loop has done. -/
def Expd (w0:World) (b n:Nat) (C A B:Nat) (D:Value) (E:Value) (wr:World):Prop:=
 ∃ j:Nat,j≤blen n∧E= .int .i64 ((j:Int)-1)∧NI w0 wr B ((b^(n/2^j):Nat):Int)∧NI w0 wr A (b:Int)∧NI w0 wr C 0∧Num wr D n∧G w0 wr
set_option maxRecDepth 10000 in
theorem q2M (w0 w:World) (g:G w0 w) (A px py b n K:Nat) (hK:K≤1000) (hg:1≤K) (hb:b<2^(32*K)) (gz:0<b) (hn:n<2^(32*K)) (hl:n≤5000) (hp:b^n<2^(32*K)) (U:NI w0 w A 0) (hx:NI w0 w px (b:Int)) (hy:NI w0 w py (n:Int)):
  Calls Tryz.prog 87 #[.pointer (some ⟨A,0,none⟩),.pointer (some ⟨px,0,none⟩),.pointer (some ⟨py,0,none⟩),.pointer none] w fun e C=>e= .returned (.pointer (some ⟨A,0,none⟩))∧G w0 C∧NI w0 C A ((b^n:Nat):Int):=by
 have ed:((b:Nat):Int).natAbs<2^(32*K):=by rw[ar];exact hb
 have ga:G w (w.alloc (.cells #[.bool false,.slice none 0 0] 43)):=(ag _).alloc _;have Y:NI w0 (w.alloc (.cells #[.bool false,.slice none 0 0] 43)) w.heap.size 0:=eu g _;have g2:=aa g ga;have gf:=U.G ga;have bs:=hx.G ga;have gd:=hy.G ga;have d1:A≠w.heap.size:=by have:=U.2.1;omega
 have d3:py≠w.heap.size:=by have:=hy.2.1;omega
 generalize hf:w.alloc (.cells #[.bool false,.slice none 0 0] 43)=w2 at *;generalize hd:w.heap.size=E at *;have c:=hi9 (jY w2 E 0 px 0 0 (b:Int) K eK ed Y.2.1 bs.2.1 Y.2.2 bs.2.2);have cr:Hid (∀ e C,SetTo w2 E 0 (b:Int) e C→Step w0 w2 E (b:Int) e C):=fun e C h=>h.step g2 Y;have Z:Hid (∀ w6,Calls Tryz.prog 44 #[.int .i64 1] w6 (RetI w6 1)):=fun w6=>gY w6 1 eK;have hle:∀ m,m≤n→b^m<2^(32*K):=fun m hm=>aq (ai gz hm) hp;have X:=hi9 hle;have gk:=hi9 ed;have hh:(blen n:Int)≤32*K:=by have:=(blen_le_iff (a:=n) (k:=32*K)).2 hn;omega
 have em:decide ((n:Int)<0)=false:=decide_eq_false eK;have ds:Hid (NI w0 w2 A 0):=gf;have dl:Hid (NI w0 w2 py (n:Int)):=gd;have cz:Hid (∀ I v,Num I v n→_):=fun I v hv=>kC I v n K eK hv hn;have bz:Hid (∀ I v,Num I v n→_):=fun I v hv=>ly I v n K eK hv hn;have gl:Hid (∀ I v (i:Nat),i≤40000000→Num I v n→_):=fun I v i hi hv=>q3G I v n i K eK hi hv hn;clear U hx hy ga g gf bs gd Y hle hp hb hn;go_enter Tryz.func87,Tryz.ntmps87;go_wp2_with fail;clear hf hd;refine eJ c.out ?_;intro e w3 M;obtain⟨rfl,g3,b3,-,k3⟩:=cr.out e w3 M;have z3:=k3 A 0 d1 ds.out;have y3:=k3 py _ d3 dl.out;have cn:=oO y3.2.2;rw[em] at cn;have y:Hid (NI w0 w3 E (b:Int)):=b3;have an:Hid (NI w0 w3 A 0):=z3;have dq:Hid (NI w0 w3 py (n:Int)):=y3;clear c cr M k3 z3 y3 b3 ds dl g2 em;go_wp2_with fail;refine eJ (Z.out w3) ?_;rintro e I ⟨B,rfl,g4,en,ep,fp⟩;have dr:B≠E∧B≠A:=⟨by have:=y.out.2.1;omega,by have:=an.out.2.1;omega⟩;have gm:=hi9 dr;have r4:NI w0 I B 1:=⟨bk g3.size en,ep,fp⟩;have ce:Hid (NI w0 I B 1):=r4;have y4:=dq.out.G g4;obtain⟨ng,va,a,⟨-,cy,-,-⟩,bn,fr,-⟩:=y4.2.2;have ha:a=n:=by have:=fP fr;omega
 subst ha;obtain⟨pa,ka,ca,rfl⟩:∃ pa ka ca,va= .slice pa ka ca:=by
  obtain⟨la,he,-,-⟩:=bn;obtain⟨pa,ca,rfl,-,-⟩:=fa he;exact⟨_,_,_,rfl⟩
 have cx:=hi9 (cz.out I _ bn);have ea:=aa g3 g4;clear Z fp en ep r4 y4 bn fr cz dq dr;go_wp2_with fail;refine eJ cx.out ?_;intro e w5 M;obtain⟨N,rfl,g5,bq⟩:=M;have dk:Hid (Num w5 N a):=bq;have bv:=hi9 (bz.out w5 N bq);clear cx bq bz;go_wp2_with fail;refine eJ bv.out ?_;rintro e w6 ⟨rfl,g6⟩;have S:=aa g5 g6;have fv:Expd w0 b a A E B N (.int .i64 ((blen a:Int)-1)) w6:=⟨blen a,az _,rfl,by rw[aR (ns a),bH];exact ce.out.G S,y.out.G (aa g4 S),an.out.G (aa g4 S),dk.out.G g6,aa ea S⟩;have d:Hid (Expd w0 b a A E B N (.int .i64 ((blen a:Int)-1)) w6):=fv;have gg:Hid (blen a≤32*K):=by show blen a≤32*K;omega
 clear fv bv dk ce y an ea g3 g4 g5 g6 S cn cy;generalize ec:blen a=bl at *;have am:=hi9 ec;clear ec;go_wp2_with fail
 go_loopw [14] (fun vi wr=>Expd w0 b a A E B N vi wr) (fun vi _=>(intOf vi+1).toNat)
 case atStart=>exact d.out
 case round=>
  clear d;obtain⟨j,hj,rfl,D,ap,U,hv,hG⟩:=hrel;rcases j with _|i
  ·rw[bH,dF] at D;have cs:Hid _:=jY wr A 0 B 0 0 ((b^a:Nat):Int) K eK (by rw[ar];exact X.out a (az _)) U.2.1 D.2.1 U.2.2 D.2.2;have cm:Hid (∀ e C,SetTo wr A 0 ((b^a:Nat):Int) e C→Step w0 wr A ((b^a:Nat):Int) e C):=fun e C h=>h.step hG U;clear D ap U hv hj;go_wp2_with fail;refine eJ cs.out ?_;intro e L M;obtain⟨rfl,g7,z7,-,-⟩:=cm.out e L M;have gn:Hid (NI w0 L A ((b^a:Nat):Int)):=z7;clear z7 M cs cm;go_wp2_with fail;go_ret;exact⟨rfl,g7,gn.out⟩
  ·rw[show (((i+1:Nat):Int)-1)=(i:Int) from by omega] at *;rw[am.out] at hj;have hk:(i:Int)≤32000:=by have:=gg.out;omega
   have ao:a/2^(i+1)≤a:=aN _ _;have hc:a/2^i≤a:=aN _ _;have o:a/2^i=2*(a/2^(i+1))+a/2^i%2:=by
    rw[bp,← bt];omega
   have fs:((b^(a/2^(i+1)):Nat):Int)*((b^(a/2^(i+1)):Nat):Int)=((b^(2*(a/2^(i+1))):Nat):Int):=by
    rw[← aL,← ah];congr 2;omega
   have cb:Hid _:=gX wr B 0 B 0 B 0 _ _ _ K eK (by rw[ar];exact X.out _ ao) (by rw[ar];exact X.out _ ao) D.2.1 D.2.1 D.2.1 D.2.2 D.2.2 D.2.2;have ci:Hid (∀ e C,SetTo wr B 0 (((b^(a/2^(i+1)):Nat):Int)*((b^(a/2^(i+1)):Nat):Int)) e C→Step w0 wr B ((b^(2*(a/2^(i+1))):Nat):Int) e C∧Num C N a):=fun e C h=>⟨by rw[← fs];exact h.step hG D,SetTo.num D.2.2 h hv⟩;have J:=gm.out;have cc:Hid (NI w0 wr E (b:Int)):=ap;have cd:Hid (NI w0 wr A 0):=U;have H2:Hid (∀ L,NI w0 L B ((b^(2*(a/2^(i+1))):Nat):Int)→NI w0 L E (b:Int)→_):=fun L D hb=>gX L B 0 B 0 E 0 _ _ _ K eK (by rw[ar];exact X.out _ eK) gk.out D.2.1 D.2.1 hb.2.1 D.2.2 D.2.2 hb.2.2;have s:((b^(2*(a/2^(i+1))):Nat):Int)*(b:Int)=((b^(2*(a/2^(i+1))+1):Nat):Int):=by
    rw[← aL,← bp]
   have R:=hi9 s;have W:=hi9 o;have ee:i≤bl:=by omega
   clear D ap U hv ao hc fs s o;go_wp2_with fail;refine eJ cb.out ?_;intro e L M;obtain⟨⟨rfl,g7,r7,-,k7⟩,bi⟩:=ci.out e L M;have b7:=k7 E _ (bK J.1) cc.out;have z7:=k7 A _ (bK J.2) cd.out;have al:=hi9 (gl.out L N i eK bi);have R7:Hid (NI w0 L B ((b^(2*(a/2^(i+1))):Nat):Int)):=r7;have B7:Hid (NI w0 L E (b:Int)):=b7;have Z7:Hid (NI w0 L A 0):=z7;have V7:Hid (Num L N a):=bi;clear cb ci M k7 r7 b7 z7 bi cc cd;go_wp2_with fail;refine eJ al.out ?_;rintro e w8 ⟨rfl,g8⟩;have eb:=aa g7 g8;have F:a/2^i%2=0∨a/2^i%2=1:=by omega
   rcases F with F|F
   ·have hex:2*(a/2^(i+1))=a/2^i:=by have:=W.out;omega
    have hrel:Expd w0 b a A E B N (.int .i64 ((i:Int)-1)) w8:=⟨i,by rw[am.out];exact ee,rfl,by rw[← hex];exact R7.out.G g8,B7.out.G g8,Z7.out.G g8,V7.out.G g8,eb⟩;have O:Hid (Expd w0 b a A E B N (.int .i64 ((i:Int)-1)) w8):=hrel;rw[F];clear hrel hex F R7 B7 Z7 V7 al H2 R W;go_wp2_with fail
    go_roundw
    case rel=>exact O.out
    case measure=>simp only[intOf];omega
   ·have hex:2*(a/2^(i+1))+1=a/2^i:=by have:=W.out;omega
    have r8:=R7.out.G g8;have b8:=B7.out.G g8;have bu:=hi9 (H2.out w8 r8 b8);have cl:Hid (∀ e C,SetTo w8 B 0 (((b^(2*(a/2^(i+1))):Nat):Int)*(b:Int)) e C→e= .returned (.pointer (some ⟨B,0,none⟩))∧Expd w0 b a A E B N (.int .i64 ((i:Int)-1)) C):=fun e C h=>by
     have hn:=SetTo.num r8.2.2 h (V7.out.G g8);have h':=h;rw[R.out,hex] at h';obtain⟨e1,g9,r9,-,k9⟩:=h'.step eb r8;exact⟨e1,i,by rw[am.out];exact ee,rfl,r9,k9 E _ (bK J.1) b8,k9 A _ (bK J.2) (Z7.out.G g8),hn,g9⟩
    rw[F];clear hex F R7 B7 Z7 V7 al H2 r8 b8;go_wp2_with fail;refine eJ bu.out ?_;intro e w9 M;obtain⟨rfl,hrel⟩:=cl.out e w9 M;have O:Hid (Expd w0 b a A E B N (.int .i64 ((i:Int)-1)) w9):=hrel;clear bu cl M hrel R W;go_wp2_with fail
    go_roundw
    case rel=>exact O.out
    case measure=>simp only[intOf];omega
end Go.Proofs.YtfnkkkcojnffdaaGreatDoor
