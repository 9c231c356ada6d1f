/- What is proved here: contracts of the reference's big numbers: Mul, Lsh, Abs, SetInt64 of Int, over this seat's translation. -/
import Derived.Test.YtohcneeihdkfgaaGreatDoorQ1
import Derived.Test.YtohcneeihdkfgaaGreatDoorQ10
import Derived.Test.YtohcneeihdkfgaaGreatDoorQ3
import Derived.Test.YtohcneeihdkfgaaGreatDoorQ8
import Derived.Test.YtohcneeihdkfgaaGreatDoorQ20
import Derived.Test.YtohcneeihdkfgaaGreatDoorQ6
namespace Go.Proofs.YtohcneeihdkfgaaGreatDoor
open Go.ChangeShapes Go.WideShapes Go.ChangeAt Go.RowKit
open BN
theorem q6u (n A:Bool) (a B:Nat):sg (!(n==A)) (a*B)=sg n a*sg A B:=by
 unfold sg;cases n<;>cases A<;>simp [Int.neg_mul,Int.mul_neg]
theorem jr (w:World) (b o bx J F L:Nat) (s0 sx O:Int) (K:Nat) (D:K≤500000) (U:sx.natAbs<2^(32*K)) (W:O.natAbs<2^(32*K)) (hb:b<w.heap.size) (hk:bx<w.heap.size) (hl:F<w.heap.size)
  (hz:IntIs w b o s0) (hx:IntIs w bx J sx) (hy:IntIs w F L O):
  Calls Tryz.prog 72 #[.pointer (some ⟨b,o,none⟩),.pointer (some ⟨bx,J,none⟩),.pointer (some ⟨F,L,none⟩)] w (SetTo w b o (sx*O)):=by
 obtain⟨n,v,a,⟨c1,c2,-,-⟩,hv,h1,-⟩:=hx;obtain⟨X,Y,c,⟨c3,c4,-,-⟩,N,h2,-⟩:=hy;have ha:=gp h1;have R:=gp h2;have HW:Hid (∀ Z,G w Z→_):=fun Z g=>q6U Z v Y a c K D (hv.G g) (N.G g) eX eX;have HZ:=hi9 hz;have HS:Hid (sg (!(n==X)) (a*c)=sx*O):=by rw[q6u,h1,h2];exact rfl
 clear hz U W hv N h1 h2 ha R;go_enter Tryz.func72,Tryz.ntmps72;go_wp2_with fail;refine gL 19 (G w) eZ (by first|exact(ad _).drew|exact G.drew mB) ?_;intro E;have C:Hid (∀ B,G w B→B.cell? ⟨bx,J,none⟩=some (.bool n)∧B.cell? ⟨bx,J+1,none⟩=some (v)∧B.cell? ⟨F,L,none⟩=some (.bool X)∧B.cell? ⟨F,L+1,none⟩=some (Y)):=fun B A=>⟨l5 ⟨bx,J,none⟩ (.bool n) A,l5 ⟨bx,J+1,none⟩ v A,l5 ⟨F,L,none⟩ (.bool X) A,l5 ⟨F,L+1,none⟩ Y A⟩;refine eY 0 (v:= ?_) rfl eZ (fun _ _ _ h=>h) rfl ?_ ‹_› ?_;rotate_left
 ·intro B A;obtain⟨hm,hn,ho,hp⟩:=C.out B A;exact gj
 try simp only[aput,List.set]
 refine eY 1 (v:= ?_) rfl eZ (fun _ _ _ h=>h) rfl ?_ ‹_› ?_;rotate_left
 ·intro B A;obtain⟨hq,hr,hs,ht⟩:=C.out B A;exact gj
 try simp only[aput,List.set]
 refine eY 2 (v:= ?_) rfl eZ (fun _ _ _ h=>h) rfl ?_ ‹_› ?_;rotate_left
 ·intro B A;obtain⟨d,j,k,m⟩:=C.out B A;exact gj
 try simp only[aput,List.set]
 refine eY 3 (v:= ?_) rfl eZ (fun _ _ _ h=>h) rfl ?_ ‹_› ?_;rotate_left
 ·intro B A;obtain⟨s,y,af,ag⟩:=C.out B A;exact gj
 try simp only[aput,List.set]
 refine eY 4 (v:= ?_) rfl eZ (fun _ _ _ h=>h) rfl ?_ ‹_› ?_;rotate_left
 ·intro B A;obtain⟨ai,al,am,an⟩:=C.out B A;exact gj
 try simp only[aput,List.set]
 refine eY 5 (v:= ?_) rfl eZ (fun _ _ _ h=>h) rfl ?_ ‹_› ?_;rotate_left
 ·intro B A;obtain⟨ap,bi,bl,bm⟩:=C.out B A;exact gj
 try simp only[aput,List.set]
 refine eY 6 (v:= ?_) rfl eZ (fun _ _ _ h=>h) rfl ?_ ‹_› ?_;rotate_left
 ·intro B A;obtain⟨bn,bq,bs,bu⟩:=C.out B A;exact gj
 try simp only[aput,List.set]
 refine eY 7 (v:= ?_) rfl eZ (fun _ _ _ h=>h) rfl ?_ ‹_› ?_;rotate_left
 ·intro B A;obtain⟨bv,bw,bz,ca⟩:=C.out B A;exact gj
 try simp only[aput,List.set]
 refine eY 8 (v:= ?_) rfl eZ (fun _ _ _ h=>h) rfl ?_ ‹_› ?_;rotate_left
 ·intro B A;obtain⟨cb,cc,cd,ce⟩:=C.out B A;exact gj
 try simp only[aput,List.set]
 refine eY 9 (v:= ?_) rfl eZ (fun _ _ _ h=>h) rfl ?_ ‹_› ?_;rotate_left
 ·intro B A;obtain⟨ci,cl,cr,cs⟩:=C.out B A;exact gj
 try simp only[aput,List.set]
 refine eY 10 (v:= ?_) rfl eZ (fun _ _ _ h=>h) rfl ?_ ‹_› ?_;rotate_left
 ·intro B A;obtain⟨cz,di,dl,dq⟩:=C.out B A;exact gj
 try simp only[aput,List.set]
 refine eY 11 (v:= ?_) rfl eZ (fun _ _ _ h=>h) rfl ?_ ‹_› ?_;rotate_left
 ·intro B A;obtain⟨dr,ds,ea,eb⟩:=C.out B A;exact gj
 try simp only[aput,List.set]
 refine eY 12 (v:= ?_) rfl eZ (fun _ _ _ h=>h) rfl ?_ ‹_› ?_;rotate_left
 ·intro B A;obtain⟨ec,ee,em,ep⟩:=C.out B A;exact gj
 try simp only[aput,List.set]
 refine eY 13 (v:= ?_) rfl eZ (fun _ _ _ h=>h) rfl ?_ ‹_› ?_;rotate_left
 ·intro B A;obtain⟨eu,ez,fa,fb⟩:=C.out B A;exact gj
 try simp only[aput,List.set]
 refine eY 14 (v:= ?_) rfl eZ (fun _ _ _ h=>h) rfl ?_ ‹_› ?_;rotate_left
 ·intro B A;obtain⟨fh,fp,fr,fs⟩:=C.out B A;exact gj
 try simp only[aput,List.set]
 refine eY 15 (v:= ?_) rfl eZ (fun _ _ _ h=>h) rfl ?_ ‹_› ?_;rotate_left
 ·intro B A;obtain⟨fv,ga,gd,gg⟩:=C.out B A;exact gj
 try simp only[aput,List.set]
 refine eY 16 (v:= ?_) rfl eZ (fun _ _ _ h=>h) rfl ?_ ‹_› ?_;rotate_left
 ·intro B A;obtain⟨gm,hc,hd,he⟩:=C.out B A;exact gj
 try simp only[aput,List.set]
 refine eY 17 (v:= ?_) rfl eZ (fun _ _ _ h=>h) rfl ?_ ‹_› ?_;rotate_left
 ·intro B A;obtain⟨hf,hg,hh,hj⟩:=C.out B A;exact gj
 try simp only[aput,List.set]
 clear C;refine fc (i:=18) eZ rfl ?_;intro K D;go_simp;go_wp2_with (go_at_call 160;refine eW (HW.out _ E) ?_;rintro e w2 ⟨v1,rfl,I,S⟩);refine D.out _ _ (Or.inr (ab E I)) ?_;clear D K;refine fc (i:=19) eZ rfl ?_;intro K D;go_simp;go_wp2_with (go_at_call 158;refine eW (gy (w0:=w) hb (ab E I) (gO _ b o _ s0 _ _ (df HZ.out hb (ab E I)) S)) ?_;rintro e w3 ⟨rfl,M⟩);refine D.out _ _ (Or.inl fk) ?_;clear D K;refine fc (i:=20) eZ rfl ?_;intro K D;go_simp;refine D.out _ _ (Or.inl fk) ?_;clear D K;refine fS eZ ?_ _;rw[HS.out] at M;go_wp2_with fail;go_ret;exact M
theorem iS (w:World) (b o bx I k:Nat) (s0 sx:Int) (K:Nat) (D:K≤500000) (hk:k≤10000000) (M:sx.natAbs<2^(32*K)) (hb:b<w.heap.size) (ap:bx<w.heap.size)
  (hz:IntIs w b o s0) (hx:IntIs w bx I sx):
  Calls Tryz.prog 187 #[.pointer (some ⟨b,o,none⟩),.pointer (some ⟨bx,I,none⟩),.int .u64 (k:Int)] w (SetTo w b o (sx*2^k)):=by
 obtain⟨n,v,a,⟨c1,c2,-,-⟩,hv,h1,-⟩:=hx;have ha:=gp h1;have HW:Hid (∀ N,G w N→_):=fun N g=>jq N v a k K D hk (hv.G g) eX;have HZ:=hi9 hz;have HS:Hid (sg n (a*2^k)=sx*2^k):=by
  rw[← h1];show sg n (a*2^k)=sg n a*2^k;unfold sg;cases n<;>simp [Int.neg_mul]
 clear hz M hv h1 ha;go_enter Tryz.func187,Tryz.ntmps187;go_wp2_with fail;refine gL 11 (G w) eZ (by first|exact(ad _).drew|exact G.drew mB) ?_;intro E;have B:Hid (∀ C,G w C→C.cell? ⟨bx,I,none⟩=some (.bool n)∧C.cell? ⟨bx,I+1,none⟩=some (v)):=fun C A=>⟨l5 ⟨bx,I,none⟩ (.bool n) A,l5 ⟨bx,I+1,none⟩ v A⟩;refine eY 0 (v:= ?_) rfl eZ (fun _ _ _ h=>h) rfl ?_ ‹_› ?_;rotate_left
 ·intro C A;obtain⟨O,R⟩:=B.out C A;exact gj
 try simp only[aput,List.set]
 refine eY 1 (v:= ?_) rfl eZ (fun _ _ _ h=>h) rfl ?_ ‹_› ?_;rotate_left
 ·intro C A;obtain⟨S,U⟩:=B.out C A;exact gj
 try simp only[aput,List.set]
 refine eY 2 (v:= ?_) rfl eZ (fun _ _ _ h=>h) rfl ?_ ‹_› ?_;rotate_left
 ·intro C A;obtain⟨W,X⟩:=B.out C A;exact gj
 try simp only[aput,List.set]
 refine eY 3 (v:= ?_) rfl eZ (fun _ _ _ h=>h) rfl ?_ ‹_› ?_;rotate_left
 ·intro C A;obtain⟨Y,Z⟩:=B.out C A;exact gj
 try simp only[aput,List.set]
 refine eY 4 (v:= ?_) rfl eZ (fun _ _ _ h=>h) rfl ?_ ‹_› ?_;rotate_left
 ·intro C A;obtain⟨c,d⟩:=B.out C A;exact gj
 try simp only[aput,List.set]
 refine eY 5 (v:= ?_) rfl eZ (fun _ _ _ h=>h) rfl ?_ ‹_› ?_;rotate_left
 ·intro C A;obtain⟨j,m⟩:=B.out C A;exact gj
 try simp only[aput,List.set]
 refine eY 6 (v:= ?_) rfl eZ (fun _ _ _ h=>h) rfl ?_ ‹_› ?_;rotate_left
 ·intro C A;obtain⟨s,y⟩:=B.out C A;exact gj
 try simp only[aput,List.set]
 refine eY 7 (v:= ?_) rfl eZ (fun _ _ _ h=>h) rfl ?_ ‹_› ?_;rotate_left
 ·intro C A;obtain⟨af,ag⟩:=B.out C A;exact gj
 try simp only[aput,List.set]
 refine eY 8 (v:= ?_) rfl eZ (fun _ _ _ h=>h) rfl ?_ ‹_› ?_;rotate_left
 ·intro C A;obtain⟨ai,al⟩:=B.out C A;exact gj
 try simp only[aput,List.set]
 refine eY 9 (v:= ?_) rfl eZ (fun _ _ _ h=>h) rfl ?_ ‹_› ?_;rotate_left
 ·intro C A;obtain⟨am,an⟩:=B.out C A;exact gj
 try simp only[aput,List.set]
 clear B;refine fc (i:=10) eZ rfl ?_;intro K D;go_simp;go_wp2_with (go_at_call 249;refine eW (HW.out _ E) ?_;rintro e w2 ⟨v1,rfl,F,L⟩);refine D.out _ _ (Or.inr (ab E F)) ?_;clear D K;refine fc (i:=11) eZ rfl ?_;intro K D;go_simp;go_wp2_with (go_at_call 158;refine eW (gy (w0:=w) hb (ab E F) (gO _ b o _ s0 _ _ (df HZ.out hb (ab E F)) L)) ?_;rintro e w3 ⟨rfl,J⟩);refine D.out _ _ (Or.inl fk) ?_;clear D K;refine fc (i:=12) eZ rfl ?_;intro K D;go_simp;refine D.out _ _ (Or.inl fk) ?_;clear D K;refine fS eZ ?_ _;rw[HS.out] at J;go_wp2_with fail;go_ret;exact J
theorem q5H (w:World) (b o bx L:Nat) (M sx:Int) (K:Nat) (S:K≤1000000) (A:sx.natAbs<2^(32*K)) (hb:b<w.heap.size)
  (J:IntIs w b o M) (U:IntIs w bx L sx):
  Calls Tryz.prog 97 #[.pointer (some ⟨b,o,none⟩),.pointer (some ⟨bx,L,none⟩)] w (SetTo w b o sx.natAbs):=by
 obtain⟨n,v,a,⟨c1,W,-,-⟩,hv,h1,-⟩:=U;have I:=gp h1;rw[← I] at A ⊢;have O:Hid (∀ E,G w E→_):=fun E g=>qj E v a K S (hv.G g) A;have R:=hi9 J;have N:Hid (sg false a=a):=rfl;clear J A hv h1 I;go_enter Tryz.func97,Tryz.ntmps97;go_wp2_with fail;refine eW (O.out _ gv) ?_;rintro e Y ⟨X,rfl,C,D⟩;have F:=ab (a:=w) gv C;go_wp2_with fail;refine eW (gy (w0:=w) hb F (gO _ b o _ M _ _ (df R.out hb F) D)) ?_;rintro e Z ⟨rfl,B⟩;rw[N.out] at B;go_wp2_with fail;go_ret;exact B
theorem q3H (w:World) (b o:Nat) (x:Int) (J:Int) (O: -9223372036854775808≤x∧x≤9223372036854775807) (hb:b<w.heap.size) (M:IntIs w b o J):
  Calls Tryz.prog 148 #[.pointer (some ⟨b,o,none⟩),.int .i64 x] w (SetTo w b o x):=by
 obtain⟨R,S⟩:=O;have K:=hi9 (kU w x.natAbs eX);have L:=hi9 M;clear M;by_cases A:x<0
 ·have F:decide (x<0)=true:=by simpa using A
  have I:IntKind.u64.wrap x=x+18446744073709551616:=by rw[IntKind.wrap_u64];omega
  have N:IntKind.u64.wrap (-(x+18446744073709551616))=(x.natAbs:Int):=by rw[IntKind.wrap_u64];omega
  have E:Hid (sg true x.natAbs=x):=by show sg true x.natAbs=x;unfold sg;simp;omega
  generalize x.natAbs=a at *;clear A;go_enter Tryz.func148,Tryz.ntmps148;go_wp2_with fail;refine eW K.out ?_;rintro e W ⟨U,rfl,B,D⟩;go_wp2_with fail;refine eW (gy (w0:=w) hb B (gO _ b o _ J _ _ (df L.out hb B) D)) ?_;rintro e X ⟨rfl,C⟩;rw[E.out] at C;go_wp2_with fail;go_ret;exact C
 ·have F:decide (x<0)=false:=by simpa using A
  have I:IntKind.u64.wrap x=(x.natAbs:Int):=by rw[IntKind.wrap_u64];omega
  have E:Hid (sg false x.natAbs=x):=by show sg false x.natAbs=x;unfold sg;simp;omega
  generalize x.natAbs=a at *;clear A;go_enter Tryz.func148,Tryz.ntmps148;go_wp2_with fail;refine eW K.out ?_;rintro e W ⟨U,rfl,B,D⟩;go_wp2_with fail;refine eW (gy (w0:=w) hb B (gO _ b o _ J _ _ (df L.out hb B) D)) ?_;rintro e X ⟨rfl,C⟩;rw[E.out] at C;go_wp2_with fail;go_ret;exact C
theorem mD (w:World) (t:TypeId):IntIs (w.alloc (.cells #[.bool false,.slice none 0 0] t)) w.heap.size 0 0:=by
 refine⟨false,.slice none 0 0,0,⟨?_,?_,World.frozen?_alloc_at _ _ _ _ rfl,World.frozen?_alloc_at _ _ _ _ rfl⟩,ir _ _ _,rfl,fun h=>by cases h⟩
 ·rw[World.cell?_alloc_at _ _ _ _ rfl];rfl
 ·rw[World.cell?_alloc_at _ _ _ _ rfl];rfl
/-- A call hands back a new Int that holds s; nothing that was there has turned. -/
def RetI (w:World) (s:Int) (e:Ending) (A:World):Prop:=∃ p,e= .returned (.pointer (some ⟨p,0,none⟩))∧G w A∧w.heap.size≤p∧p<A.heap.size∧IntIs A p 0 s
/-- What a method leaves behind that sets a new Int. -/
theorem SetTo.ret {w0 w:World} {b:Nat} {s:Int} {e:Ending} {A:World} (g:G w0 w) (hb:w0.heap.size≤b) (C:b<w.heap.size) (h:SetTo w b 0 s e A):RetI w0 s e A:=by
 obtain⟨rfl,h2,-,B⟩:=h;exact⟨b,rfl,GX.fresh g h2 hb,hb,aj C h2.size,B⟩
theorem gW (w:World) (x:Int) (B: -9223372036854775808≤x∧x≤9223372036854775807):Calls Tryz.prog 62 #[.int .i64 x] w (RetI w x):=by
 have C:Hid (∀ A b,b<A.heap.size→IntIs A b 0 0→_):=fun A b h1 h2=>q3H A b 0 x 0 B h1 h2;clear B;go_enter Tryz.func62,Tryz.ntmps62;go_wp2_with fail;refine eW (C.out _ w.heap.size fX (mD w _)) ?_;intro e A h;have h2:=SetTo.ret ((ad w).alloc _) (aI _) fX h;obtain⟨p,rfl,h3⟩:=h2;go_wp2_with fail;go_ret;exact⟨p,rfl,h3⟩
end Go.Proofs.YtohcneeihdkfgaaGreatDoor
