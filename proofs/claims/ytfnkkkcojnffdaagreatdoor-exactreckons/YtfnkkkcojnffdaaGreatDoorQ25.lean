/- What is proved here: contracts of the reference's big numbers: Mul, Lsh, Abs, SetInt64 of Int, over this seat's translation. -/
import Derived.Test.YtfnkkkcojnffdaaGreatDoorQ1
import Derived.Test.YtfnkkkcojnffdaaGreatDoorQ8
import Derived.Test.YtfnkkkcojnffdaaGreatDoorQ3
import Derived.Test.YtfnkkkcojnffdaaGreatDoorQ18
import Derived.Test.YtfnkkkcojnffdaaGreatDoorQ24
import Derived.Test.YtfnkkkcojnffdaaGreatDoorQ6
namespace Go.Proofs.YtfnkkkcojnffdaaGreatDoor
open Go.ChangeShapes Go.WideShapes Go.ChangeAt Go.RowKit
open BN
theorem q3q (n A:Bool) (a B:Nat):sg (!(n==A)) (a*B)=sg n a*sg A B:=by
 unfold sg;cases n<;>cases A<;>simp [Int.neg_mul,Int.mul_neg]
theorem gX (w:World) (b o bx J F L:Nat) (s0 sx O:Int) (K:Nat) (D:K≤500000) (U:sx.natAbs<2^(32*K)) (W:O.natAbs<2^(32*K)) (hb:b<w.heap.size) (hh:bx<w.heap.size) (hj:F<w.heap.size)
  (hz:IntIs w b o s0) (hx:IntIs w bx J sx) (hy:IntIs w F L O):
  Calls Tryz.prog 54 #[.pointer (some ⟨b,o,none⟩),.pointer (some ⟨bx,J,none⟩),.pointer (some ⟨F,L,none⟩)] w (SetTo w b o (sx*O)):=by
 obtain⟨n,v,a,⟨c1,c2,-,-⟩,hv,h1,-⟩:=hx;obtain⟨X,Y,c,⟨c3,c4,-,-⟩,N,h2,-⟩:=hy;have ha:=fP h1;have R:=fP h2;have HW:Hid (∀ Z,G w Z→_):=fun Z g=>q3M Z v Y a c K D (hv.G g) (N.G g) eK eK;have HZ:=hi9 hz;have HS:Hid (sg (!(n==X)) (a*c)=sx*O):=by rw[q3q,h1,h2];exact rfl
 clear hz U W hv N h1 h2 ha R;go_enter Tryz.func54,Tryz.ntmps54;go_wp2_with fail;refine fN 19 (G w) eM (by first|exact(ag _).drew|exact G.drew kg) ?_;intro E;have C:Hid (∀ B,G w B→B.cell? ⟨bx,J,none⟩=some (.bool n)∧B.cell? ⟨bx,J+1,none⟩=some (v)∧B.cell? ⟨F,L,none⟩=some (.bool X)∧B.cell? ⟨F,L+1,none⟩=some (Y)):=fun B A=>⟨kh ⟨bx,J,none⟩ (.bool n) A,kh ⟨bx,J+1,none⟩ v A,kh ⟨F,L,none⟩ (.bool X) A,kh ⟨F,L+1,none⟩ Y A⟩;refine eL 0 (v:= ?_) rfl eM (fun _ _ _ h=>h) rfl ?_ ‹_› ?_;rotate_left
 ·intro B A;obtain⟨hk,hl,hm,hn⟩:=C.out B A;exact fE
 try simp only[aput,List.set]
 refine eL 1 (v:= ?_) rfl eM (fun _ _ _ h=>h) rfl ?_ ‹_› ?_;rotate_left
 ·intro B A;obtain⟨ho,hp,hq,hr⟩:=C.out B A;exact fE
 try simp only[aput,List.set]
 refine eL 2 (v:= ?_) rfl eM (fun _ _ _ h=>h) rfl ?_ ‹_› ?_;rotate_left
 ·intro B A;obtain⟨d,j,k,m⟩:=C.out B A;exact fE
 try simp only[aput,List.set]
 refine eL 3 (v:= ?_) rfl eM (fun _ _ _ h=>h) rfl ?_ ‹_› ?_;rotate_left
 ·intro B A;obtain⟨s,y,al,am⟩:=C.out B A;exact fE
 try simp only[aput,List.set]
 refine eL 4 (v:= ?_) rfl eM (fun _ _ _ h=>h) rfl ?_ ‹_› ?_;rotate_left
 ·intro B A;obtain⟨an,ao,ap,bi⟩:=C.out B A;exact fE
 try simp only[aput,List.set]
 refine eL 5 (v:= ?_) rfl eM (fun _ _ _ h=>h) rfl ?_ ‹_› ?_;rotate_left
 ·intro B A;obtain⟨bl,bn,bq,bs⟩:=C.out B A;exact fE
 try simp only[aput,List.set]
 refine eL 6 (v:= ?_) rfl eM (fun _ _ _ h=>h) rfl ?_ ‹_› ?_;rotate_left
 ·intro B A;obtain⟨bu,bv,bz,ca⟩:=C.out B A;exact fE
 try simp only[aput,List.set]
 refine eL 7 (v:= ?_) rfl eM (fun _ _ _ h=>h) rfl ?_ ‹_› ?_;rotate_left
 ·intro B A;obtain⟨cb,cc,cd,ce⟩:=C.out B A;exact fE
 try simp only[aput,List.set]
 refine eL 8 (v:= ?_) rfl eM (fun _ _ _ h=>h) rfl ?_ ‹_› ?_;rotate_left
 ·intro B A;obtain⟨ci,cl,cm,cn⟩:=C.out B A;exact fE
 try simp only[aput,List.set]
 refine eL 9 (v:= ?_) rfl eM (fun _ _ _ h=>h) rfl ?_ ‹_› ?_;rotate_left
 ·intro B A;obtain⟨cr,cs,cx,cy⟩:=C.out B A;exact fE
 try simp only[aput,List.set]
 refine eL 10 (v:= ?_) rfl eM (fun _ _ _ h=>h) rfl ?_ ‹_› ?_;rotate_left
 ·intro B A;obtain⟨cz,dk,dl,dq⟩:=C.out B A;exact fE
 try simp only[aput,List.set]
 refine eL 11 (v:= ?_) rfl eM (fun _ _ _ h=>h) rfl ?_ ‹_› ?_;rotate_left
 ·intro B A;obtain⟨dr,ds,ea,eb⟩:=C.out B A;exact fE
 try simp only[aput,List.set]
 refine eL 12 (v:= ?_) rfl eM (fun _ _ _ h=>h) rfl ?_ ‹_› ?_;rotate_left
 ·intro B A;obtain⟨ec,ed,ee,em⟩:=C.out B A;exact fE
 try simp only[aput,List.set]
 refine eL 13 (v:= ?_) rfl eM (fun _ _ _ h=>h) rfl ?_ ‹_› ?_;rotate_left
 ·intro B A;obtain⟨en,ep,fp,fr⟩:=C.out B A;exact fE
 try simp only[aput,List.set]
 refine eL 14 (v:= ?_) rfl eM (fun _ _ _ h=>h) rfl ?_ ‹_› ?_;rotate_left
 ·intro B A;obtain⟨fs,fv,ga,gd⟩:=C.out B A;exact fE
 try simp only[aput,List.set]
 refine eL 15 (v:= ?_) rfl eM (fun _ _ _ h=>h) rfl ?_ ‹_› ?_;rotate_left
 ·intro B A;obtain⟨gf,gg,gk,gl⟩:=C.out B A;exact fE
 try simp only[aput,List.set]
 refine eL 16 (v:= ?_) rfl eM (fun _ _ _ h=>h) rfl ?_ ‹_› ?_;rotate_left
 ·intro B A;obtain⟨gm,gn,gz,hc⟩:=C.out B A;exact fE
 try simp only[aput,List.set]
 refine eL 17 (v:= ?_) rfl eM (fun _ _ _ h=>h) rfl ?_ ‹_› ?_;rotate_left
 ·intro B A;obtain⟨hd,he,hf,hg⟩:=C.out B A;exact fE
 try simp only[aput,List.set]
 clear C;refine eN (i:=18) eM rfl ?_;intro K D;go_simp;go_wp2_with (go_at_call 115;refine eJ (HW.out _ E) ?_;rintro e w2 ⟨v1,rfl,I,S⟩);refine D.out _ _ (Or.inr (aa E I)) ?_;clear D K;refine eN (i:=19) eM rfl ?_;intro K D;go_simp;go_wp2_with (go_at_call 113;refine eJ (fQ (w0:=w) hb (aa E I) (gq _ b o _ s0 _ _ (cD HZ.out hb (aa E I)) S)) ?_;rintro e w3 ⟨rfl,M⟩);refine D.out _ _ (Or.inl ff) ?_;clear D K;refine eN (i:=20) eM rfl ?_;intro K D;go_simp;refine D.out _ _ (Or.inl ff) ?_;clear D K;refine fh eM ?_ _;rw[HS.out] at M;go_wp2_with fail;go_ret;exact M
theorem kv (w:World) (b o bx I k:Nat) (s0 sx:Int) (K:Nat) (D:K≤500000) (hk:k≤10000000) (M:sx.natAbs<2^(32*K)) (hb:b<w.heap.size) (bl:bx<w.heap.size)
  (hz:IntIs w b o s0) (hx:IntIs w bx I sx):
  Calls Tryz.prog 142 #[.pointer (some ⟨b,o,none⟩),.pointer (some ⟨bx,I,none⟩),.int .u64 (k:Int)] w (SetTo w b o (sx*2^k)):=by
 obtain⟨n,v,a,⟨c1,c2,-,-⟩,hv,h1,-⟩:=hx;have ha:=fP h1;have HW:Hid (∀ N,G w N→_):=fun N g=>iC N v a k K D hk (hv.G g) eK;have HZ:=hi9 hz;have HS:Hid (sg n (a*2^k)=sx*2^k):=by
  rw[← h1];show sg n (a*2^k)=sg n a*2^k;unfold sg;cases n<;>simp [Int.neg_mul]
 clear hz M hv h1 ha;go_enter Tryz.func142,Tryz.ntmps142;go_wp2_with fail;refine fN 11 (G w) eM (by first|exact(ag _).drew|exact G.drew kg) ?_;intro E;have B:Hid (∀ C,G w C→C.cell? ⟨bx,I,none⟩=some (.bool n)∧C.cell? ⟨bx,I+1,none⟩=some (v)):=fun C A=>⟨kh ⟨bx,I,none⟩ (.bool n) A,kh ⟨bx,I+1,none⟩ v A⟩;refine eL 0 (v:= ?_) rfl eM (fun _ _ _ h=>h) rfl ?_ ‹_› ?_;rotate_left
 ·intro C A;obtain⟨O,R⟩:=B.out C A;exact fE
 try simp only[aput,List.set]
 refine eL 1 (v:= ?_) rfl eM (fun _ _ _ h=>h) rfl ?_ ‹_› ?_;rotate_left
 ·intro C A;obtain⟨S,U⟩:=B.out C A;exact fE
 try simp only[aput,List.set]
 refine eL 2 (v:= ?_) rfl eM (fun _ _ _ h=>h) rfl ?_ ‹_› ?_;rotate_left
 ·intro C A;obtain⟨W,X⟩:=B.out C A;exact fE
 try simp only[aput,List.set]
 refine eL 3 (v:= ?_) rfl eM (fun _ _ _ h=>h) rfl ?_ ‹_› ?_;rotate_left
 ·intro C A;obtain⟨Y,Z⟩:=B.out C A;exact fE
 try simp only[aput,List.set]
 refine eL 4 (v:= ?_) rfl eM (fun _ _ _ h=>h) rfl ?_ ‹_› ?_;rotate_left
 ·intro C A;obtain⟨c,d⟩:=B.out C A;exact fE
 try simp only[aput,List.set]
 refine eL 5 (v:= ?_) rfl eM (fun _ _ _ h=>h) rfl ?_ ‹_› ?_;rotate_left
 ·intro C A;obtain⟨j,m⟩:=B.out C A;exact fE
 try simp only[aput,List.set]
 refine eL 6 (v:= ?_) rfl eM (fun _ _ _ h=>h) rfl ?_ ‹_› ?_;rotate_left
 ·intro C A;obtain⟨s,y⟩:=B.out C A;exact fE
 try simp only[aput,List.set]
 refine eL 7 (v:= ?_) rfl eM (fun _ _ _ h=>h) rfl ?_ ‹_› ?_;rotate_left
 ·intro C A;obtain⟨al,am⟩:=B.out C A;exact fE
 try simp only[aput,List.set]
 refine eL 8 (v:= ?_) rfl eM (fun _ _ _ h=>h) rfl ?_ ‹_› ?_;rotate_left
 ·intro C A;obtain⟨an,ao⟩:=B.out C A;exact fE
 try simp only[aput,List.set]
 refine eL 9 (v:= ?_) rfl eM (fun _ _ _ h=>h) rfl ?_ ‹_› ?_;rotate_left
 ·intro C A;obtain⟨ap,bi⟩:=B.out C A;exact fE
 try simp only[aput,List.set]
 clear B;refine eN (i:=10) eM rfl ?_;intro K D;go_simp;go_wp2_with (go_at_call 186;refine eJ (HW.out _ E) ?_;rintro e w2 ⟨v1,rfl,F,L⟩);refine D.out _ _ (Or.inr (aa E F)) ?_;clear D K;refine eN (i:=11) eM rfl ?_;intro K D;go_simp;go_wp2_with (go_at_call 113;refine eJ (fQ (w0:=w) hb (aa E F) (gq _ b o _ s0 _ _ (cD HZ.out hb (aa E F)) L)) ?_;rintro e w3 ⟨rfl,J⟩);refine D.out _ _ (Or.inl ff) ?_;clear D K;refine eN (i:=12) eM rfl ?_;intro K D;go_simp;refine D.out _ _ (Or.inl ff) ?_;clear D K;refine fh eM ?_ _;rw[HS.out] at J;go_wp2_with fail;go_ret;exact J
theorem q2E (w:World) (b o bx L:Nat) (M sx:Int) (K:Nat) (S:K≤1000000) (A:sx.natAbs<2^(32*K)) (hb:b<w.heap.size)
  (J:IntIs w b o M) (U:IntIs w bx L sx):
  Calls Tryz.prog 79 #[.pointer (some ⟨b,o,none⟩),.pointer (some ⟨bx,L,none⟩)] w (SetTo w b o sx.natAbs):=by
 obtain⟨n,v,a,⟨c1,W,-,-⟩,hv,h1,-⟩:=U;have I:=fP h1;rw[← I] at A ⊢;have O:Hid (∀ E,G w E→_):=fun E g=>kC E v a K S (hv.G g) A;have R:=hi9 J;have N:Hid (sg false a=a):=rfl;clear J A hv h1 I;go_enter Tryz.func79,Tryz.ntmps79;go_wp2_with fail;refine eJ (O.out _ lT) ?_;rintro e Y ⟨X,rfl,C,D⟩;have F:=aa (a:=w) lT C;go_wp2_with fail;refine eJ (fQ (w0:=w) hb F (gq _ b o _ M _ _ (cD R.out hb F) D)) ?_;rintro e Z ⟨rfl,B⟩;rw[N.out] at B;go_wp2_with fail;go_ret;exact B
theorem q0V (w:World) (b o:Nat) (x:Int) (J:Int) (O: -9223372036854775808≤x∧x≤9223372036854775807) (hb:b<w.heap.size) (M:IntIs w b o J):
  Calls Tryz.prog 103 #[.pointer (some ⟨b,o,none⟩),.int .i64 x] w (SetTo w b o x):=by
 obtain⟨R,S⟩:=O;have K:=hi9 (jv w x.natAbs eK);have L:=hi9 M;clear M;by_cases A:x<0
 ·have F:decide (x<0)=true:=by simpa using A
  have I:IntKind.u64.wrap x=x+18446744073709551616:=by rw[IntKind.wrap_u64];omega
  have N:IntKind.u64.wrap (-(x+18446744073709551616))=(x.natAbs:Int):=by rw[IntKind.wrap_u64];omega
  have E:Hid (sg true x.natAbs=x):=by show sg true x.natAbs=x;unfold sg;simp;omega
  generalize x.natAbs=a at *;clear A;go_enter Tryz.func103,Tryz.ntmps103;go_wp2_with fail;refine eJ K.out ?_;rintro e W ⟨U,rfl,B,D⟩;go_wp2_with fail;refine eJ (fQ (w0:=w) hb B (gq _ b o _ J _ _ (cD L.out hb B) D)) ?_;rintro e X ⟨rfl,C⟩;rw[E.out] at C;go_wp2_with fail;go_ret;exact C
 ·have F:decide (x<0)=false:=by simpa using A
  have I:IntKind.u64.wrap x=(x.natAbs:Int):=by rw[IntKind.wrap_u64];omega
  have E:Hid (sg false x.natAbs=x):=by show sg false x.natAbs=x;unfold sg;simp;omega
  generalize x.natAbs=a at *;clear A;go_enter Tryz.func103,Tryz.ntmps103;go_wp2_with fail;refine eJ K.out ?_;rintro e W ⟨U,rfl,B,D⟩;go_wp2_with fail;refine eJ (fQ (w0:=w) hb B (gq _ b o _ J _ _ (cD L.out hb B) D)) ?_;rintro e X ⟨rfl,C⟩;rw[E.out] at C;go_wp2_with fail;go_ret;exact C
theorem pY (w:World) (t:TypeId):IntIs (w.alloc (.cells #[.bool false,.slice none 0 0] t)) w.heap.size 0 0:=by
 refine⟨false,.slice none 0 0,0,⟨?_,?_,World.frozen?_alloc_at _ _ _ _ rfl,World.frozen?_alloc_at _ _ _ _ rfl⟩,gF _ _ _,rfl,fun h=>by cases h⟩
 ·rw[World.cell?_alloc_at _ _ _ _ rfl];rfl
 ·rw[World.cell?_alloc_at _ _ _ _ rfl];rfl
/-- A call hands back a new Int that holds s; nothing that was there has turned. -/
def RetI (w:World) (s:Int) (e:Ending) (A:World):Prop:=∃ p,e= .returned (.pointer (some ⟨p,0,none⟩))∧G w A∧w.heap.size≤p∧p<A.heap.size∧IntIs A p 0 s
/-- What a method leaves behind that sets a new Int. -/
theorem SetTo.ret {w0 w:World} {b:Nat} {s:Int} {e:Ending} {A:World} (g:G w0 w) (hb:w0.heap.size≤b) (C:b<w.heap.size) (h:SetTo w b 0 s e A):RetI w0 s e A:=by
 obtain⟨rfl,h2,-,B⟩:=h;exact⟨b,rfl,GX.fresh g h2 hb,hb,ae C h2.size,B⟩
theorem gY (w:World) (x:Int) (B: -9223372036854775808≤x∧x≤9223372036854775807):Calls Tryz.prog 44 #[.int .i64 x] w (RetI w x):=by
 have C:Hid (∀ A b,b<A.heap.size→IntIs A b 0 0→_):=fun A b h1 h2=>q0V A b 0 x 0 B h1 h2;clear B;go_enter Tryz.func44,Tryz.ntmps44;go_wp2_with fail;refine eJ (C.out _ w.heap.size fI (pY w _)) ?_;intro e A h;have h2:=SetTo.ret ((ag w).alloc _) (az _) fI h;obtain⟨p,rfl,h3⟩:=h2;go_wp2_with fail;go_ret;exact⟨p,rfl,h3⟩
end Go.Proofs.YtfnkkkcojnffdaaGreatDoor
