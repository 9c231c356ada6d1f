/- What is proved here: the float nearest to a ratio, its arithmetic (no program).
What is proved here: contracts of the reference: Made, over this seat's translation.
What is proved here: contracts of the reference's ratios: SetFloat64, over this seat's translation. -/
import Derived.Test.YtfnkkkcojnffdaaGreatDoorQ1
import Derived.Test.YtfnkkkcojnffdaaGreatDoorQ37
import Derived.Test.YtfnkkkcojnffdaaGreatDoorQ26
import Derived.OwnWalk
import Derived.Test.YtfnkkkcojnffdaaGreatDoorQ15
import Derived.Test.YtfnkkkcojnffdaaGreatDoorQ3
import Derived.Test.YtfnkkkcojnffdaaGreatDoorQ18
namespace Go.Proofs.YtfnkkkcojnffdaaGreatDoor
open Go.RowKit
open BN
theorem lG (N D k:Nat) (A:0<k):ic (N*k) (D*k)=ic N D:=by
 unfold ic;rw[cM _ _ A,cZ];have B:2*(N%D*k)=(2*(N%D))*k:=by rw[ak]
 rw[B]
 congr 1
 have h1:D*k<2*(N%D)*k↔D<2*(N%D):=Nat.mul_lt_mul_right A;have h2:2*(N%D)*k=D*k↔2*(N%D)=D:=Nat.mul_left_inj eK;simp only[h1,h2]
theorem mW {N D B A:Nat} (E:0<D) (C:0<A) (h:N*A=B*D):ic N D=ic B A:=by
 rw[← lG N D A C,h,← lG B A D E,aI A D]
theorem pw (x:Nat):ic x 1=x:=by
 unfold ic;rw[dF,Nat.mod_one,if_neg eK];rfl
theorem pq (mag d:Nat) (B:1≤d):rnd mag d=ic mag (2^d):=by
 unfold rnd ic;have e:2^d=2*2^(d-1):=by
  obtain⟨k,rfl⟩:∃ k,d=k+1:=⟨d-1,by omega⟩;simp [Nat.pow_succ,Nat.mul_comm]
 congr 1
 generalize mag%2^d=r;generalize mag/2^d=q;rw[e];generalize 2^(d-1)=h;by_cases c1:h<r
 ·rw[if_pos (Or.inl c1),if_pos (Or.inl eK)]
 ·by_cases A:r=h∧q%2=1
  ·rw[if_pos (Or.inr A),if_pos (Or.inr ⟨by omega,A.2⟩)]
  ·rw[if_neg (by rintro(h|h);exact c1 h;exact A h),if_neg (by rintro(h|h);omega;exact A ⟨by omega,h.2⟩)]
theorem rk (mag:Nat) (n:Int) (B:mag<2^64):shV mag n=ic (mag*2^n.toNat) (2^(-n).toNat):=by
 unfold shV;by_cases A:0≤n
 ·rw[if_pos A,show (-n).toNat=0 from by omega,bH,pw]
 ·rw[if_neg A,show n.toNat=0 from by omega,bH,bJ];by_cases h2:n< -64
  ·rw[if_pos h2];have h3:2^65≤2^(-n).toNat:=fU eK;generalize 2^(-n).toNat=D at *;unfold ic;rw[aR eK,aU eK,if_neg eK]
  ·rw[if_neg h2];exact pq _ _ eK
/-- The power of two at or below A / B. -/
def expo (A B:Nat):Int:=if B*2^((blen A:Int)-blen B).toNat≤A*2^(-((blen A:Int)-blen B)).toNat then (blen A:Int)-blen B else (blen A:Int)-blen B-1
def iB (A B:Nat):Int:=max (expo A B-52) (-1074)
/-- The float nearest to A / B (its place among the floats from 0 on). -/
def flV (A B:Nat):Nat:=min ((iB A B+1074).toNat*2^52+q0n A B (iB A B)) (2047*2^52)
/-- Powers below 0 away: K is great enough. -/
theorem lK {X Y:Nat} {p:Int} (K:Nat) (h: -(K:Int)≤p):∃ c,X*2^K=X*2^(-p).toNat*2^c∧Y*2^((K:Int)+p).toNat=Y*2^p.toNat*2^c:=by
 refine⟨K-(-p).toNat,?_,?_⟩
 ·rw[ak,← ah,show (-p).toNat+(K-(-p).toNat)=K from by omega]
 ·rw[ak,← ah,show p.toNat+(K-(-p).toNat)=((K:Int)+p).toNat from by omega]
theorem lI {X Y:Nat} {p:Int} (K:Nat) (h: -(K:Int)≤p):Y*2^p.toNat≤X*2^(-p).toNat↔Y*2^((K:Int)+p).toNat≤X*2^K:=by
 obtain⟨c,h1,h2⟩:=lK (X:=X) (Y:=Y) K h;rw[h1,h2];exact(Nat.mul_le_mul_right_iff (af c)).symm
theorem lJ {X Y:Nat} {p:Int} (K:Nat) (h: -(K:Int)≤p):X*2^(-p).toNat<Y*2^p.toNat↔X*2^K<Y*2^((K:Int)+p).toNat:=by
 obtain⟨c,h1,h2⟩:=lK (X:=X) (Y:=Y) K h;rw[h1,h2];exact(Nat.mul_lt_mul_right (af c)).symm
theorem nX {X Y:Nat} {p:Int} (K:Nat) (h: -(K:Int)≤p):X*2^(-p).toNat=Y*2^p.toNat↔X*2^K=Y*2^((K:Int)+p).toNat:=by
 obtain⟨c,h1,h2⟩:=lK (X:=X) (Y:=Y) K h;rw[h1,h2];exact(Nat.mul_left_inj (dO (af c))).symm
/-- 2 ^ expo is at or below, ... -/
theorem pP {A B:Nat} (C:A≠0) (D:B≠0) (K:Nat) (E: -(K:Int)≤expo A B):B*2^((K:Int)+expo A B).toNat≤A*2^K:=by
 rw[← lI K E];unfold expo;split
 ·assumption
 ·obtain⟨F,a2,a3⟩:=jl C;obtain⟨I,J,L⟩:=jl D;generalize M:(blen A:Int)-blen B-1=d
  calc B*2^d.toNat≤2^blen B*2^d.toNat:=ay _ eK
   _=2^(blen B+d.toNat):=by rw[ah]
   _≤2^(blen A-1+(-d).toNat):=ai eK eK
   _=2^(blen A-1)*2^(-d).toNat:=by rw[ah]
   _≤A*2^(-d).toNat:=ay _ a2
/-- ... and 2 ^ (expo + 1) above. -/
theorem pQ {A B:Nat} (D:A≠0) (E:B≠0) (K:Nat) (L: -(K:Int)≤expo A B):A*2^K<B*2^((K:Int)+(expo A B+1)).toNat:=by
 rw[← lJ K eK];unfold expo;split
 ·obtain⟨F,a2,a3⟩:=jl D;obtain⟨I,C,J⟩:=jl E;generalize M:(blen A:Int)-blen B+1=d
  calc A*2^(-d).toNat<2^blen A*2^(-d).toNat:=aF a3 (af _)
   _=2^(blen A+(-d).toNat):=by rw[ah]
   _≤2^(blen B-1+d.toNat):=ai eK eK
   _=2^(blen B-1)*2^d.toNat:=by rw[ah]
   _≤B*2^d.toNat:=ay _ C
 ·rename_i h
  rw[show (blen A:Int)-blen B-1+1=(blen A:Int)-blen B from by omega];exact Nat.lt_of_not_le h
theorem iv {a b:Nat} (h:2^a<2^b):a<b:=(aY (by omega:1<2)).1 h
theorem q1x {A B mag:Nat} {e:Int} (D:A≠0) (E:B≠0) (F:mag≠0) (h:A*2^(-e).toNat=mag*B*2^e.toNat):expo A B=e+mag.log2:=by
 have J:=cV F;have M:=cG (n:=mag);obtain⟨K,N⟩:∃ K:Nat,K=e.natAbs+(expo A B).natAbs+1:=⟨_,rfl⟩;have I:=(nX K eK).1 h;have h1:=pP D E K eK;have h2:=pQ D E K eK;rw[I] at h1 h2;generalize expo A B=L at *;have C:0<B:=by omega
 have g1:B*2^((K:Int)+L).toNat<B*2^(mag.log2+1+((K:Int)+e).toNat):=by
  refine aq h1 ?_;rw[aI mag B,ak,ah];exact Nat.mul_lt_mul_of_pos_left (aF M (af _)) C
 have g2:B*2^(mag.log2+((K:Int)+e).toNat)<B*2^((K:Int)+(L+1)).toNat:=by
  refine aq ?_ h2;rw[aI mag B,ak,ah];exact aA _ (ay _ J)
 have O:=iv (da g1);have R:=iv (da g2);omega
/-- A / B in units of 2^p is mag * 2^e in units of 2^p. -/
theorem q0o {A B mag:Nat} {e:Int} (p:Int) (F:B≠0) (h:A*2^(-e).toNat=mag*B*2^e.toNat):q0n A B p=ic (mag*2^(e-p).toNat) (2^(-(e-p)).toNat):=by
 unfold q0n upP loP;refine mW (bF eK (af _)) (af _) ?_;obtain⟨K,I⟩:∃ K:Nat,K=(-p).toNat+(-(e-p)).toNat+(-e).toNat:=⟨_,rfl⟩;have E:=(nX K eK).1 h;have C:A*2^(-p).toNat*2^(-(e-p)).toNat*2^(-e).toNat=A*2^K:=by
  rw[ak,ak,← ah,← ah];congr 2;omega
 have D:mag*2^(e-p).toNat*(B*2^p.toNat)*2^(-e).toNat=mag*B*2^((K:Int)+e).toNat:=by
  rw[show mag*2^(e-p).toNat*(B*2^p.toNat)=mag*B*(2^(e-p).toNat*2^p.toNat) from by ac_rfl,← ah,ak,← ah]
  congr 2;omega
 exact dE (af (-e).toNat) (by rw[C,D,E])
/-- What 'nearest' of package bits gives is the float nearest to a ratio that is mag * 2^e. -/
theorem pS {A B mag:Nat} {e:Int} (M:A≠0) (I:B≠0) (D:mag≠0) (E:mag<2^64) (h:A*2^(-e).toNat=mag*B*2^e.toNat):gV 11 52 mag e=flV A B:=by
 have N:=q1x M I D h;have hle:=lz mag e;unfold flV;have J:=q0o (iB A B) I h;rw[← rk mag _ E] at J;rw[J];unfold iB;rw[N];have F:=oW false mag e D E;unfold Ieee.Format.nearest at F;rw[if_neg D,FT.leastPlace_eq,FT.infRung_eq,FT.binade_eq,FT.word_eq] at F;have O:(max (e+(mag.log2:Int)-(52:Nat)) (-1074))=max (e+(mag.log2:Int)-52) (-1074):=rfl;have C:FT.wrd false (min ((max (e+(mag.log2:Int)-(52:Nat)) (-1074)- -1074).toNat*2^52+Ieee.Toward.even.cut false (mag<<<(e-max (e+(mag.log2:Int)-(52:Nat)) (-1074)).toNat) (max (e+(mag.log2:Int)-(52:Nat)) (-1074)-e).toNat) (2047*2^52))=FT.wrd false (gV 11 52 mag e):=F;rw[O] at C;generalize max (e+(mag.log2:Int)-52) (-1074)=last at *;have K:=qh false mag (e-last) D E;rw[show (-(e-last)).toNat=(last-e).toNat from by omega] at K;rw[← K,show (last- -1074).toNat=(last+1074).toNat from by omega] at C;have L:∀ x:Nat,FT.wrd false x=x:=fun x=>rfl;rw[L,L] at C;exact C.symm
theorem nN {v:Nat} {P:Int} (hv:v<2^53) (J: -1074≤P) (h:P= -1074∨2^52≤v):gV 11 52 v P=min ((P+1074).toNat*2^52+v) (2047*2^52):=by
 unfold gV;by_cases B:v=0
 ·subst B;have:P= -1074:=by omega
  subst this;rfl
 rw[if_neg B];have h2:(2:Int)^(11-1)=1024:=rfl;rw[h2];have D:shV v 0=v:=by unfold shV;simp
 have K:=cV B;have L:=cG (n:=v);by_cases I:2^52≤v
 ·have C:v.log2=52:=by
   have a:v.log2<53:=(cH B).2 hv;have b:¬ v.log2<52:=by rw[cH B];omega
   omega
  rw[C];by_cases A:(1024:Int)-1<P+(52:Nat)
  ·rw[if_pos A];have:2046*2^52≤(P+1074).toNat*2^52:=ay _ eK;omega
  ·rw[if_neg A];have F:max (P+((52:Nat):Int)) (2-1024)=P+52:=by omega
   rw[F,show P-(P+52-(52:Nat))=0 from by omega,D,show (P+52-(2-1024)).toNat=(P+1074).toNat from by omega];have:(P+1074).toNat*2^52≤2045*2^52:=ay _ eK;omega
 ·have E:P= -1074:=by omega
  subst E;have C:v.log2<52:=(cH B).2 eK;rw[if_neg eK];have F:max (-1074+(v.log2:Int)) (2-1024)= -1022:=by omega
  rw[F];show 0*2^52+shV v 0=min (0*2^52+v) _;rw[D];omega
end Go.Proofs.YtfnkkkcojnffdaaGreatDoor
namespace Go.Proofs.YtfnkkkcojnffdaaGreatDoor
open Go.ChangeShapes Go.WideShapes Go.ChangeAt Go.RowKit
open BN
/-- A new Rat that nothing has written yet. -/
def RatZ (w:World) (p:Nat):Prop:=l5 w p 0 false (.slice none 0 0)∧l5 w p 2 false (.slice none 0 0)
theorem RatZ.new (w:World) (t:TypeId):RatZ (w.alloc (.cells #[.bool false,.slice none 0 0,.bool false,.slice none 0 0] t)) w.heap.size:=by
 refine⟨⟨?_,?_,World.frozen?_alloc_at _ _ _ _ rfl,World.frozen?_alloc_at _ _ _ _ rfl⟩,⟨?_,?_,World.frozen?_alloc_at _ _ _ _ rfl,World.frozen?_alloc_at _ _ _ _ rfl⟩⟩
 all_goals rw[World.cell?_alloc_at _ _ _ _ rfl];rfl
theorem RatZ.G {w B:World} {p:Nat} (h:RatZ w p) (A:p<w.heap.size) (g:G w B):RatZ B p:=by
 obtain⟨⟨C,a2,a3,a4⟩,⟨D,E,F,I⟩⟩:=h;exact⟨⟨G.cell g A C,G.cell g A a2,(Below.frozen g A).trans a3,(Below.frozen g A).trans a4⟩,⟨G.cell g A D,G.cell g A E,(Below.frozen g A).trans F,(Below.frozen g A).trans I⟩⟩
theorem RatZ.GX {w B:World} {p b:Nat} (h:RatZ w p) (J:p<w.heap.size) (A:p≠b) (g:GX b w B):RatZ B p:=by
 have hb:=g.block p J (fun e=>A (bO e));obtain⟨⟨C,a2,a3,a4⟩,⟨D,E,F,I⟩⟩:=h;exact⟨⟨(World.cell?_of_block hb).trans C,(World.cell?_of_block hb).trans a2,(World.frozen?_of_block hb).trans a3,(World.frozen?_of_block hb).trans a4⟩,⟨(World.cell?_of_block hb).trans D,(World.cell?_of_block hb).trans E,(World.frozen?_of_block hb).trans F,(World.frozen?_of_block hb).trans I⟩⟩
attribute [local go_sem] fL gy iU
set_option maxRecDepth 10000 in
set_option maxHeartbeats 4000000 in
theorem pA (w:World) (bz b mag X k:Nat) (s:Bool) (S i s1 s2:Int) (K:Nat) (hK:K≤1000) (cc:mag<2^53) (hS:S=if s then -(mag:Int) else mag)
  (L1:bits BinOp.and IntKind.u64 ((b:Int)/4503599627370496) 2047=0) (L2:bits BinOp.and IntKind.u64 (b:Int) 4503599627370495=(mag:Int)) (L4:((b:Int)/9223372036854775808==1)=s)
  (hk:(k:Int)=1074) (ca:i=S) (bv:(X:Int)=2^k)
  (hB:i.natAbs<2^(32*K)∧X<2^(32*K)∧0<X) (cb:bz<w.heap.size) (hz:RatIs w bz s1 s2):
  Calls Tryz.prog 84 #[.pointer (some ⟨bz,0,none⟩),.float .f64 b] w (NormTo w bz (Int.tdiv i (Nat.gcd i.natAbs X:Nat)) (X/Nat.gcd i.natAbs X)):=by
 have HB:Hid (i.natAbs<2^(32*K)∧X<2^(32*K)∧0<X):=hB;have HZ:Hid (RatIs w bz s1 s2):=hz;have an:Hid (mag<2^64):=by show mag<2^64;omega
 have cd:Hid (S.natAbs<2^(32*2)):=by show S.natAbs<2^(32*2);rw[hS];split<;>omega
 have Y:Hid (bz<w.heap.size):=cb;clear hB hz cc cb;have bu:Hid (i=S):=ca;have bq:Hid ((X:Int)=2^k):=bv;have bs:Hid ((k:Int)=1074):=hk;have ce:k≤10000:=by omega
 clear ca bv hk;cases s
 ·have ao:Hid (S=(mag:Int)):=hS;clear hS;go_enter Tryz.func84,Tryz.ntmps84;go_wp2_with fail;have B:=eu (ag w) 43;have o:=(ag w).alloc (.cells #[.bool false,.slice none 0 0] 43);generalize w.heap.size=C at B ⊢;generalize w.alloc (.cells #[.bool false,.slice none 0 0] 43)=wa at *;have W:=hi9 (kA wa C 0 mag 0 an.out B.2.1 B.2.2);have c:Hid (NI w wa C 0):=B;clear B;refine eJ W.out ?_;intro e w2 D;obtain⟨rfl,j,y,-,-⟩:=cf o c.out D;have E:Hid (NI w w2 C (mag:Int)):=y;clear D y W c o;have L:Hid (NI w w2 C S):=by rw[ao.out];exact E
  have N:=j;clear E j;go_wp2_with fail;refine eJ (gY _ 1 eK) ?_;intro e w4 h;obtain⟨Z,rfl,U,bl,I,F⟩:=h;have m:=aa N U;have d:Hid (NI w w4 C S):=L.out.G U;have bn:=N.size;have A:Hid (NI w w4 Z 1):=⟨by omega,I,F⟩;have bi:C≠Z:=by have:=L.out.2.1;omega
  clear U bl I F bn L N;go_wp2_with fail;rw[← bs.out];have W:=hi9 (kv w4 Z 0 Z 0 k 1 1 2 eK eK ff A.out.2.1 A.out.2.1 A.out.2.2 A.out.2.2);refine eJ W.out ?_;intro e w5 D;obtain⟨rfl,O,R,-,al⟩:=cf m A.out D;have M:Hid (NI w w5 C i):=by rw[bu.out];exact al C S bi d.out
  rw[Int.one_mul,← bq.out] at R;have J:Hid (NI w w5 Z (X:Int)):=R;clear D R W al d A m;have HF:=hi9 (gN w5 bz C 0 Z 0 s1 s2 i X K eK HB.out.1 HB.out.2.1 HB.out.2.2 (dp O Y.out) M.out.2.1 J.out.2.1 (HZ.out.G Y.out O) M.out.2.2 J.out.2.2);clear M J HB HZ Y;go_wp2_with fail;refine eJ HF.out ?_;intro e w6 D;obtain⟨rfl,k1,k2⟩:=NormTo.after O D;have am:=hi9 k2;clear D k2 HF;go_wp2_with fail;go_ret;exact⟨rfl,k1,am.out⟩
 ·have ao:Hid (S= -(mag:Int)):=hS;clear hS;go_enter Tryz.func84,Tryz.ntmps84;go_wp2_with fail;have B:=eu (ag w) 43;have o:=(ag w).alloc (.cells #[.bool false,.slice none 0 0] 43);generalize w.heap.size=C at B ⊢;generalize w.alloc (.cells #[.bool false,.slice none 0 0] 43)=wa at *;have W:=hi9 (kA wa C 0 mag 0 an.out B.2.1 B.2.2);have c:Hid (NI w wa C 0):=B;clear B;refine eJ W.out ?_;intro e w2 D;obtain⟨rfl,j,y,-,-⟩:=cf o c.out D;have E:Hid (NI w w2 C (mag:Int)):=y;clear D y W c o;have W:Hid _:=kz w2 C 0 C 0 (mag:Int) (mag:Int) 2 eK (by rw[ar];exact an.out) E.out.2.1 E.out.2.1 E.out.2.2 E.out.2.2;go_wp2_with fail;refine eJ W.out ?_;intro e w3 D;obtain⟨rfl,N,ap,-,-⟩:=cf j E.out D;rw[← ao.out] at ap;have L:Hid (NI w w3 C S):=ap;clear D ap W E j;go_wp2_with fail;refine eJ (gY _ 1 eK) ?_;intro e w4 h;obtain⟨Z,rfl,U,bl,I,F⟩:=h;have m:=aa N U;have d:Hid (NI w w4 C S):=L.out.G U;have bn:=N.size;have A:Hid (NI w w4 Z 1):=⟨by omega,I,F⟩;have bi:C≠Z:=by have:=L.out.2.1;omega
  clear U bl I F bn L N;go_wp2_with fail;rw[← bs.out];have W:=hi9 (kv w4 Z 0 Z 0 k 1 1 2 eK eK ff A.out.2.1 A.out.2.1 A.out.2.2 A.out.2.2);refine eJ W.out ?_;intro e w5 D;obtain⟨rfl,O,R,-,al⟩:=cf m A.out D;have M:Hid (NI w w5 C i):=by rw[bu.out];exact al C S bi d.out
  rw[Int.one_mul,← bq.out] at R;have J:Hid (NI w w5 Z (X:Int)):=R;clear D R W al d A m;have HF:=hi9 (gN w5 bz C 0 Z 0 s1 s2 i X K eK HB.out.1 HB.out.2.1 HB.out.2.2 (dp O Y.out) M.out.2.1 J.out.2.1 (HZ.out.G Y.out O) M.out.2.2 J.out.2.2);clear M J HB HZ Y;go_wp2_with fail;refine eJ HF.out ?_;intro e w6 D;obtain⟨rfl,k1,k2⟩:=NormTo.after O D;have am:=hi9 k2;clear D k2 HF;go_wp2_with fail;go_ret;exact⟨rfl,k1,am.out⟩
set_option maxRecDepth 10000 in
set_option maxHeartbeats 4000000 in
theorem q0U (w:World) (bz b ex fr mag X k:Nat) (s:Bool) (S d s1 s2:Int) (K:Nat) (hK:K≤1000) (cb:mag<2^53) (hS:S=if s then -(mag:Int) else mag) (h1:ex<2047) (h2:1075≤ex)
  (L1:bits BinOp.and IntKind.u64 ((b:Int)/4503599627370496) 2047=(ex:Int)) (L2:bits BinOp.and IntKind.u64 (b:Int) 4503599627370495=(fr:Int)) (L3:bits BinOp.or IntKind.u64 (fr:Int) 4503599627370496=(mag:Int))
  (L4:((b:Int)/9223372036854775808==1)=s)
  (hk:(k:Int)=ex-1075) (bv:d=S*2^k) (bu:(X:Int)=1)
  (hB:d.natAbs<2^(32*K)∧X<2^(32*K)∧0<X) (ca:bz<w.heap.size) (hz:RatIs w bz s1 s2):
  Calls Tryz.prog 84 #[.pointer (some ⟨bz,0,none⟩),.float .f64 b] w (NormTo w bz (Int.tdiv d (Nat.gcd d.natAbs X:Nat)) (X/Nat.gcd d.natAbs X)):=by
 have HB:Hid (d.natAbs<2^(32*K)∧X<2^(32*K)∧0<X):=hB;have HZ:Hid (RatIs w bz s1 s2):=hz;have am:Hid (mag<2^64):=by show mag<2^64;omega
 have bs:Hid (S.natAbs<2^(32*2)):=by show S.natAbs<2^(32*2);rw[hS];split<;>omega
 have Y:Hid (bz<w.heap.size):=ca;clear hB hz cb ca;have bq:Hid (d=S*2^k):=bv;have bn:Hid ((X:Int)=1):=bu;have t1:((ex:Int)==2047)=false:=by simp;omega
 have t2:((ex:Int)==0)=false:=by simp;omega
 have t3:decide ((1075:Int)≤ex)=true:=decide_eq_true eK;have cc:Hid (IntKind.u64.wrap ((ex:Int)-1075)=(k:Int)):=by show IntKind.u64.wrap ((ex:Int)-1075)=(k:Int);rw[IntKind.wrap_u64];omega
 have cd:Hid (wrap64 ((ex:Int)-1075)=(k:Int)):=by show wrap64 ((ex:Int)-1075)=(k:Int);rw[IntWalk.wrap64_in _ eK];omega
 have ci:(ex:Int)-1075=(k:Int):=hk.symm;have ce:k≤10000:=by omega
 clear bv bu hk h1 h2;cases s
 ·have an:Hid (S=(mag:Int)):=hS;clear hS;go_enter Tryz.func84,Tryz.ntmps84;go_wp2_with fail;have B:=eu (ag w) 43;have m:=(ag w).alloc (.cells #[.bool false,.slice none 0 0] 43);generalize w.heap.size=C at B ⊢;generalize w.alloc (.cells #[.bool false,.slice none 0 0] 43)=wa at *;have W:=hi9 (kA wa C 0 mag 0 am.out B.2.1 B.2.2);have c:Hid (NI w wa C 0):=B;clear B;refine eJ W.out ?_;intro e w2 D;obtain⟨rfl,i,o,-,-⟩:=cf m c.out D;have E:Hid (NI w w2 C (mag:Int)):=o;clear D o W c m;have L:Hid (NI w w2 C S):=by rw[an.out];exact E
  have N:=i;clear E i;go_wp2_with fail;refine eJ (gY _ 1 eK) ?_;intro e w4 h;obtain⟨pd,rfl,U,bi,I,F⟩:=h;have j:=aa N U;have A:Hid (NI w w4 C S):=L.out.G U;have bl:=N.size;have Z:Hid (NI w w4 pd 1):=⟨by omega,I,F⟩;have ap:C≠pd:=by have:=L.out.2.1;omega
  clear U bi I F bl L N;go_wp2_with fail;have W:=hi9 (kv w4 C 0 C 0 k S S 2 eK eK bs.out A.out.2.1 A.out.2.1 A.out.2.2 A.out.2.2);refine eJ W.out ?_;intro e w5 D;obtain⟨rfl,O,R,-,y⟩:=cf j A.out D;have J:Hid (NI w w5 pd (X:Int)):=by rw[bn.out];exact y pd 1 ap.symm Z.out
  rw[← bq.out] at R;have M:Hid (NI w w5 C d):=R;clear D R W y A Z j;have HF:=hi9 (gN w5 bz C 0 pd 0 s1 s2 d X K eK HB.out.1 HB.out.2.1 HB.out.2.2 (dp O Y.out) M.out.2.1 J.out.2.1 (HZ.out.G Y.out O) M.out.2.2 J.out.2.2);clear M J HB HZ Y;go_wp2_with fail;refine eJ HF.out ?_;intro e w6 D;obtain⟨rfl,k1,k2⟩:=NormTo.after O D;have al:=hi9 k2;clear D k2 HF;go_wp2_with fail;go_ret;exact⟨rfl,k1,al.out⟩
 ·have an:Hid (S= -(mag:Int)):=hS;clear hS;go_enter Tryz.func84,Tryz.ntmps84;go_wp2_with fail;have B:=eu (ag w) 43;have m:=(ag w).alloc (.cells #[.bool false,.slice none 0 0] 43);generalize w.heap.size=C at B ⊢;generalize w.alloc (.cells #[.bool false,.slice none 0 0] 43)=wa at *;have W:=hi9 (kA wa C 0 mag 0 am.out B.2.1 B.2.2);have c:Hid (NI w wa C 0):=B;clear B;refine eJ W.out ?_;intro e w2 D;obtain⟨rfl,i,o,-,-⟩:=cf m c.out D;have E:Hid (NI w w2 C (mag:Int)):=o;clear D o W c m;have W:Hid _:=kz w2 C 0 C 0 (mag:Int) (mag:Int) 2 eK (by rw[ar];exact am.out) E.out.2.1 E.out.2.1 E.out.2.2 E.out.2.2;go_wp2_with fail;refine eJ W.out ?_;intro e w3 D;obtain⟨rfl,N,ao,-,-⟩:=cf i E.out D;rw[← an.out] at ao;have L:Hid (NI w w3 C S):=ao;clear D ao W E i;go_wp2_with fail;refine eJ (gY _ 1 eK) ?_;intro e w4 h;obtain⟨pd,rfl,U,bi,I,F⟩:=h;have j:=aa N U;have A:Hid (NI w w4 C S):=L.out.G U;have bl:=N.size;have Z:Hid (NI w w4 pd 1):=⟨by omega,I,F⟩;have ap:C≠pd:=by have:=L.out.2.1;omega
  clear U bi I F bl L N;go_wp2_with fail;have W:=hi9 (kv w4 C 0 C 0 k S S 2 eK eK bs.out A.out.2.1 A.out.2.1 A.out.2.2 A.out.2.2);refine eJ W.out ?_;intro e w5 D;obtain⟨rfl,O,R,-,y⟩:=cf j A.out D;have J:Hid (NI w w5 pd (X:Int)):=by rw[bn.out];exact y pd 1 ap.symm Z.out
  rw[← bq.out] at R;have M:Hid (NI w w5 C d):=R;clear D R W y A Z j;have HF:=hi9 (gN w5 bz C 0 pd 0 s1 s2 d X K eK HB.out.1 HB.out.2.1 HB.out.2.2 (dp O Y.out) M.out.2.1 J.out.2.1 (HZ.out.G Y.out O) M.out.2.2 J.out.2.2);clear M J HB HZ Y;go_wp2_with fail;refine eJ HF.out ?_;intro e w6 D;obtain⟨rfl,k1,k2⟩:=NormTo.after O D;have al:=hi9 k2;clear D k2 HF;go_wp2_with fail;go_ret;exact⟨rfl,k1,al.out⟩
set_option maxRecDepth 10000 in
set_option maxHeartbeats 4000000 in
theorem q0T (w:World) (bz b ex fr mag X k:Nat) (s:Bool) (S i s1 s2:Int) (K:Nat) (hK:K≤1000) (cb:mag<2^53) (hS:S=if s then -(mag:Int) else mag) (h1:1≤ex) (h2:ex<1075)
  (L1:bits BinOp.and IntKind.u64 ((b:Int)/4503599627370496) 2047=(ex:Int)) (L2:bits BinOp.and IntKind.u64 (b:Int) 4503599627370495=(fr:Int)) (L3:bits BinOp.or IntKind.u64 (fr:Int) 4503599627370496=(mag:Int))
  (L4:((b:Int)/9223372036854775808==1)=s)
  (hk:(k:Int)=1075-ex) (bv:i=S) (bu:(X:Int)=2^k)
  (hB:i.natAbs<2^(32*K)∧X<2^(32*K)∧0<X) (ca:bz<w.heap.size) (hz:RatIs w bz s1 s2):
  Calls Tryz.prog 84 #[.pointer (some ⟨bz,0,none⟩),.float .f64 b] w (NormTo w bz (Int.tdiv i (Nat.gcd i.natAbs X:Nat)) (X/Nat.gcd i.natAbs X)):=by
 have HB:Hid (i.natAbs<2^(32*K)∧X<2^(32*K)∧0<X):=hB;have HZ:Hid (RatIs w bz s1 s2):=hz;have an:Hid (mag<2^64):=by show mag<2^64;omega
 have cc:Hid (S.natAbs<2^(32*2)):=by show S.natAbs<2^(32*2);rw[hS];split<;>omega
 have Y:Hid (bz<w.heap.size):=ca;clear hB hz cb ca;have bs:Hid (i=S):=bv;have bq:Hid ((X:Int)=2^k):=bu;have t1:((ex:Int)==2047)=false:=by simp;omega
 have t2:((ex:Int)==0)=false:=by simp;omega
 have t3:decide ((1075:Int)≤ex)=false:=decide_eq_false eK;have ce:(1075:Int)-ex=(k:Int):=hk.symm;have cd:k≤10000:=by omega
 clear bv bu hk h1 h2;cases s
 ·have ao:Hid (S=(mag:Int)):=hS;clear hS;go_enter Tryz.func84,Tryz.ntmps84;go_wp2_with fail;have B:=eu (ag w) 43;have o:=(ag w).alloc (.cells #[.bool false,.slice none 0 0] 43);generalize w.heap.size=C at B ⊢;generalize w.alloc (.cells #[.bool false,.slice none 0 0] 43)=wa at *;have W:=hi9 (kA wa C 0 mag 0 an.out B.2.1 B.2.2);have c:Hid (NI w wa C 0):=B;clear B;refine eJ W.out ?_;intro e w2 D;obtain⟨rfl,j,y,-,-⟩:=cf o c.out D;have E:Hid (NI w w2 C (mag:Int)):=y;clear D y W c o;have L:Hid (NI w w2 C S):=by rw[ao.out];exact E
  have N:=j;clear E j;go_wp2_with fail;refine eJ (gY _ 1 eK) ?_;intro e w4 h;obtain⟨Z,rfl,U,bl,I,F⟩:=h;have m:=aa N U;have d:Hid (NI w w4 C S):=L.out.G U;have bn:=N.size;have A:Hid (NI w w4 Z 1):=⟨by omega,I,F⟩;have bi:C≠Z:=by have:=L.out.2.1;omega
  clear U bl I F bn L N;go_wp2_with fail;have W:=hi9 (kv w4 Z 0 Z 0 k 1 1 2 eK eK ff A.out.2.1 A.out.2.1 A.out.2.2 A.out.2.2);refine eJ W.out ?_;intro e w5 D;obtain⟨rfl,O,R,-,al⟩:=cf m A.out D;have M:Hid (NI w w5 C i):=by rw[bs.out];exact al C S bi d.out
  rw[Int.one_mul,← bq.out] at R;have J:Hid (NI w w5 Z (X:Int)):=R;clear D R W al d A m;have HF:=hi9 (gN w5 bz C 0 Z 0 s1 s2 i X K eK HB.out.1 HB.out.2.1 HB.out.2.2 (dp O Y.out) M.out.2.1 J.out.2.1 (HZ.out.G Y.out O) M.out.2.2 J.out.2.2);clear M J HB HZ Y;go_wp2_with fail;refine eJ HF.out ?_;intro e w6 D;obtain⟨rfl,k1,k2⟩:=NormTo.after O D;have am:=hi9 k2;clear D k2 HF;go_wp2_with fail;go_ret;exact⟨rfl,k1,am.out⟩
 ·have ao:Hid (S= -(mag:Int)):=hS;clear hS;go_enter Tryz.func84,Tryz.ntmps84;go_wp2_with fail;have B:=eu (ag w) 43;have o:=(ag w).alloc (.cells #[.bool false,.slice none 0 0] 43);generalize w.heap.size=C at B ⊢;generalize w.alloc (.cells #[.bool false,.slice none 0 0] 43)=wa at *;have W:=hi9 (kA wa C 0 mag 0 an.out B.2.1 B.2.2);have c:Hid (NI w wa C 0):=B;clear B;refine eJ W.out ?_;intro e w2 D;obtain⟨rfl,j,y,-,-⟩:=cf o c.out D;have E:Hid (NI w w2 C (mag:Int)):=y;clear D y W c o;have W:Hid _:=kz w2 C 0 C 0 (mag:Int) (mag:Int) 2 eK (by rw[ar];exact an.out) E.out.2.1 E.out.2.1 E.out.2.2 E.out.2.2;go_wp2_with fail;refine eJ W.out ?_;intro e w3 D;obtain⟨rfl,N,ap,-,-⟩:=cf j E.out D;rw[← ao.out] at ap;have L:Hid (NI w w3 C S):=ap;clear D ap W E j;go_wp2_with fail;refine eJ (gY _ 1 eK) ?_;intro e w4 h;obtain⟨Z,rfl,U,bl,I,F⟩:=h;have m:=aa N U;have d:Hid (NI w w4 C S):=L.out.G U;have bn:=N.size;have A:Hid (NI w w4 Z 1):=⟨by omega,I,F⟩;have bi:C≠Z:=by have:=L.out.2.1;omega
  clear U bl I F bn L N;go_wp2_with fail;have W:=hi9 (kv w4 Z 0 Z 0 k 1 1 2 eK eK ff A.out.2.1 A.out.2.1 A.out.2.2 A.out.2.2);refine eJ W.out ?_;intro e w5 D;obtain⟨rfl,O,R,-,al⟩:=cf m A.out D;have M:Hid (NI w w5 C i):=by rw[bs.out];exact al C S bi d.out
  rw[Int.one_mul,← bq.out] at R;have J:Hid (NI w w5 Z (X:Int)):=R;clear D R W al d A m;have HF:=hi9 (gN w5 bz C 0 Z 0 s1 s2 i X K eK HB.out.1 HB.out.2.1 HB.out.2.2 (dp O Y.out) M.out.2.1 J.out.2.1 (HZ.out.G Y.out O) M.out.2.2 J.out.2.2);clear M J HB HZ Y;go_wp2_with fail;refine eJ HF.out ?_;intro e w6 D;obtain⟨rfl,k1,k2⟩:=NormTo.after O D;have am:=hi9 k2;clear D k2 HF;go_wp2_with fail;go_ret;exact⟨rfl,k1,am.out⟩
/-- The upper and the lower part of a float, ahead of lowest terms. -/
def frS (s:Bool) (mag:Nat):Int:=if s then -(mag:Int) else mag
def frN (s:Bool) (mag ex:Nat):Int:=frS s mag*2^(max ex 1-1075)
def frD (ex:Nat):Nat:=2^(1075-max ex 1)
theorem mL (ex:Nat):0<frD ex:=af _
theorem pU (s:Bool) (mag ex:Nat):(frN s mag ex).natAbs=mag*2^(max ex 1-1075):=by
 unfold frN frS;rw[FT.ipow,bG,ar]
 congr 1
 split<;>omega
theorem q3J (s:Bool) (mag ex K:Nat) (A:mag<2^53) (hex:ex<2047) (B:K=40):(frN s mag ex).natAbs<2^(32*K)∧frD ex<2^(32*K)∧0<frD ex:=by
 refine⟨?_,?_,mL ex⟩
 ·rw[pU]
  calc mag*2^(max ex 1-1075)<2^53*2^(max ex 1-1075):=aF A (af _)
   _=2^(53+(max ex 1-1075)):=by rw[ah]
   _≤2^(32*K):=ai eK eK
 ·unfold frD;exact cF eK eK
theorem q23 (w:World) (C b ex B mag:Nat) (O R:Int) (W:b<2^64) (j:b/2^52%2^11=ex) (d:b%2^52=B) (hex:ex<2047) (M:(if ex=0 then B else 2^52+B)=mag)
  (D:C<w.heap.size) (c:RatIs w C O R):
  Calls Tryz.prog 84 #[.pointer (some ⟨C,0,none⟩),.float .f64 b] w
   (NormTo w C (Int.tdiv (frN (FT.neg b) mag ex) (Nat.gcd (frN (FT.neg b) mag ex).natAbs (frD ex):Nat)) (frD ex/Nat.gcd (frN (FT.neg b) mag ex).natAbs (frD ex))):=by
 obtain⟨K,i⟩:∃ K:Nat,K=40:=⟨_,rfl⟩;have L:B<2^52:=by omega
 have A:mag<2^53:=by rw[← M];split<;>omega
 have X:=q3J (FT.neg b) mag ex K A hex i;have N:=FT.rung_fields b;rw[j,d] at N;have Z:b=FT.wrd (FT.neg b) (ex*2^52+B):=by
  rw[← N];rcases FT.neg_cases b W with ⟨F,a2⟩|⟨F,a2⟩<;>rw[F]<;>exact a2
 have I:=FT.exp_field (FT.neg b) ex B eK L;rw[← Z] at I;have J:=FT.and_mask b 52 W eK;rw[d,show (2:Int)^52-1=4503599627370495 from rfl] at J;have U:((b:Int)/9223372036854775808==1)=FT.neg b:=by
  rcases FT.neg_cases b W with ⟨F,a2⟩|⟨F,a2⟩
  ·have:=FT.rung_lt b;rw[F];simp;omega
  ·have:=FT.rung_lt b;rw[F];simp;omega
 have Y:frS (FT.neg b) mag=if FT.neg b then -(mag:Int) else mag:=rfl;by_cases E:ex=0
 ·rw[if_pos E] at M;rw[E] at I;rw[M] at J;refine pA w C b mag (frD ex) (1075-max ex 1) _ _ _ O R K eK A Y I J U eK ?_ (FT.ipow _).symm X D c;unfold frN;rw[show max ex 1-1075=0 from by omega,Int.pow_zero,dN]
 ·rw[if_neg E] at M;have S:=q33 L (by omega:52≤63);rw[bR,M,show (2:Int)^52=4503599627370496 from rfl] at S;by_cases hu:1075≤ex
  ·refine q0U w C b ex B mag (frD ex) (ex-1075) _ _ _ O R K eK A Y hex hu I J S U eK ?_ ?_ X D c
   ·unfold frN;rw[show max ex 1=ex from by omega]
   ·unfold frD;rw[show 1075-max ex 1=0 from by omega];rfl
  ·refine q0T w C b ex B mag (frD ex) (1075-max ex 1) _ _ _ O R K eK A Y eK eK I J S U eK ?_ (FT.ipow _).symm X D c;unfold frN;rw[show max ex 1-1075=0 from by omega,Int.pow_zero,dN]
/-- The reference's ratio of a float. -/
theorem q3f (w:World) (b ex D mag:Nat) (M:b<2^64) (N:b/2^52%2^11=ex) (O:b%2^52=D) (hex:ex<2047) (R:(if ex=0 then D else 2^52+D)=mag):
  Calls Tryz.prog 37 #[.float .f64 b] w
   (RetR w (Int.tdiv (frN (FT.neg b) mag ex) (Nat.gcd (frN (FT.neg b) mag ex).natAbs (frD ex):Nat)) (frD ex/Nat.gcd (frN (FT.neg b) mag ex).natAbs (frD ex))):=by
 have L:Hid (∀ E p,p<E.heap.size→RatIs E p 0 0→_):=fun E p W X=>q23 E p b ex D mag 0 0 M N O hex R W X;generalize Int.tdiv (frN (FT.neg b) mag ex) (Nat.gcd (frN (FT.neg b) mag ex).natAbs (frD ex):Nat)=A at *;generalize frD ex/Nat.gcd (frN (FT.neg b) mag ex).natAbs (frD ex)=B at *;clear M N O hex R;go_enter Tryz.func37,Tryz.ntmps37;go_wp2_with fail;have J:=jX w 45;have I:=(ag w).alloc (.cells #[.bool false,.slice none 0 0,.bool false,.slice none 0 0] 45);have C:w.heap.size<(w.alloc (.cells #[.bool false,.slice none 0 0,.bool false,.slice none 0 0] 45)).heap.size:=by simp
 have K:w.heap.size≤w.heap.size:=az _;generalize w.alloc (.cells #[.bool false,.slice none 0 0,.bool false,.slice none 0 0] 45)=d at *;refine eJ (L.out d _ C J) ?_;intro e i S;obtain⟨p,rfl,Y,Z,c,U⟩:=NormTo.ret I K C S;have F:Hid (RatIs i p A (B:Int)):=U;clear S U L;go_wp2_with fail;go_ret;exact⟨p,rfl,Y,Z,c,F.out⟩
end Go.Proofs.YtfnkkkcojnffdaaGreatDoor
