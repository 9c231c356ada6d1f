/- What is proved here: what a long division of the reference's big numbers needs: a law of 'copy' into a row of our own, words of its digits, over this seat's translation.
What is proved here: what a long division of the reference's big numbers keeps from digit to digit (no program). -/
import Derived.Test.YtfnkkkcojnffdaaGreatDoorC1
import Derived.Test.YtfnkkkcojnffdaaGreatDoorC9
import Derived.Test.YtfnkkkcojnffdaaGreatDoorC10
import Derived.Laws.IdiomCopy
import Derived.Tactics
namespace Go.Proofs.YtfnkkkcojnffdaaGreatDoor
open Go.ChangeShapes Go.WideShapes Go.ChangeAt Go.RowKit
open BN
/-- Words laid over a row of our own. -/
theorem Own.cells {w:World} {b:Nat}:∀ {m l:List Nat} {o:Nat},Own w b l→okw m→o+m.length≤l.length→
  Own (w.setCells b o (m.map fun d=> .int .u32 (d:Nat))) b (l.take o++(m++l.drop (o+m.length))):=by
 intro m
 induction m generalizing w with
 |nil=>intro l o h _ _;simpa [World.setCells] using h
 |cons d m E=>
  intro l o h D C;obtain⟨B,A⟩:=okw_cons.1 D;simp only[aK] at C;have h1:=Own.set h o d dT B;have h2:=E (l:=l.set o d) (o:=o+1) h1 A (by rw[av];omega);rw[dB];simp only[World.setCells];have e:(l.set o d).take (o+1)++(m++(l.set o d).drop (o+1+m.length))=l.take o++(d::m++l.drop (o+(m.length+1))):=by
   rw[fC (by rw[av];omega),eT,eh dT,bP dT];simp [Nat.add_comm,Nat.add_left_comm]
  rw[aK,← e];exact h2
theorem G.setCells {w0:World} {b:Nat} (hb:w0.heap.size≤b):∀ (cs:List Value) (w:World) (o:Nat),G w0 w→G w0 (w.setCells b o cs)
 |[],_,_,h=>h
 |v::cs,_,o,h=>G.setCells hb cs _ _ (h.setCell (p:=⟨b,o,none⟩) hb v)
theorem ig {a:Nat} (h:a≠0):1≤blen a∧2^(blen a-1)≤a∧a<2^blen a:=by
 unfold blen;rw[if_neg h];have h1:=(cV (k:=a.log2) h).1 rfl;exact⟨by omega,by rw[dK];exact h1.1,h1.2⟩
/-- How far the divisor is shifted. -/
theorem iG {l:List Nat} {n:Nat} (h:canon l) (B:l.length=n+1):∃ k,1≤k∧k≤32∧blen (val l)=32*n+k∧2^(32*n+31)≤val l*2^(32-k)∧val l*2^(32-k)<2^(32*(n+1)):=by
 have A:l≠[]:=by intro e;rw[e] at B;simp at B
 have D:val l≠0:=fun e=>A ((eX h).1 e);obtain⟨h1,h2,h3⟩:=ig D;have E:=eN h A;have F:=eo h.1;rw[B] at E F;have h6:2^(blen (val l)-1)<2^(32*(n+1)):=by omega
 have I:=(aY (by omega:1<2)).1 h6;have J:2^(32*(n+1-1))<2^blen (val l):=by omega
 have K:=(aY (by omega:1<2)).1 J;obtain⟨k,C⟩:∃ k,blen (val l)=32*n+k:=⟨blen (val l)-32*n,by omega⟩;rw[C] at h2 h3 I K h1;refine⟨k,by omega,by omega,C,?_,?_⟩
 ·have:2^(32*n+k-1)*2^(32-k)≤val l*2^(32-k):=aq _ h2;rw[← ah,show 32*n+k-1+(32-k)=32*n+31 from by omega] at this;exact this
 ·have:val l*2^(32-k)<2^(32*n+k)*2^(32-k):=aD h3 (ae _);rw[← ah,show 32*n+k+(32-k)=32*(n+1) from by omega] at this;exact this
/-- The three words at the top. -/
theorem top3 {l:List Nat} {k:Nat} (B:k+2<l.length) (A:val (l.drop (k+3))=0):
  val l=val (l.take k)+2^(32*k)*((l.getD (k+2) 0*2^32+l.getD (k+1) 0)*2^32+l.getD k 0):=by
 rw[ez l k dT,eg (k:=k) dT,eg (k:=k+1) dT,eg (k:=k+2) dT];simp only[val,A]
 congr 2
 omega
theorem top2 {l:List Nat} {k:Nat} (A:l.length=k+2):
  val l=val (l.take k)+2^(32*k)*(l.getD (k+1) 0*2^32+l.getD k 0):=by
 rw[ez l k dT,eg (k:=k) dT,eg (k:=k+1) dT,aL dT];simp only[val]
 congr 2
 omega
theorem ki (c d x:Nat) (A:c<2^32) (B:d≤1) (C:x<2^32):∃ t0 t r d':Nat,
  IntKind.u64.wrap ((x:Int)-c)=t0∧IntKind.u64.wrap ((t0:Int)-d)=t∧IntKind.u32.wrap (t:Int)=r∧(t:Int)/9223372036854775808=d'∧d'≤1∧r<2^32∧r+c+d=x+2^32*d':=by
 refine⟨(x+2^64-c)%2^64,((x+2^64-c)%2^64+2^64-d)%2^64,((x+2^64-c)%2^64+2^64-d)%2^64%2^32,((x+2^64-c)%2^64+2^64-d)%2^64/2^63,?_,?_,?_,?_,?_,?_,?_⟩
 ·rw[IntKind.wrap_u64];omega
 ·rw[IntKind.wrap_u64];omega
 ·rw[IntKind.wrap_u32];omega
 all_goals omega
theorem p8 (g c d x y:Nat) (I:g<2^32) (F:c<2^32) (C:d≤1) (D:x<2^32) (J:y<2^32):∃ p lo t0 t r d' c':Nat,
  (g:Int)*y=p∧p≤18446744065119617025∧IntKind.u32.wrap ((c:Int)+p)=lo∧lo<2^32∧((c:Int)+p)/4294967296=c'∧IntKind.u64.wrap ((x:Int)-lo)=t0∧IntKind.u64.wrap ((t0:Int)-d)=t∧IntKind.u32.wrap (t:Int)=r∧
  (t:Int)/9223372036854775808=d'∧d'≤1∧c'<2^32∧r<2^32∧r+g*y+c+d=x+2^32*(c'+d'):=by
 have h:g*y≤4294967295*4294967295:=cj dT dT;obtain⟨t0,t,r,d',h1,h2,h3,A,B,h6,E⟩:=ki ((c+g*y)%2^32) d x dT C D;refine⟨g*y,(c+g*y)%2^32,t0,t,r,d',(c+g*y)/2^32,by push_cast;rfl,by omega,?_,by omega,?_,h1,h2,h3,A,B,?_,h6,?_⟩
 ·rw[IntKind.wrap_u32];generalize g*y=p at *;omega
 ·generalize g*y=p at *;omega
 all_goals generalize g*y=p at *;omega
theorem pf (c x y:Nat) (A:c≤1) (B:x<2^32) (C:y<2^32):∃ r c':Nat,
  IntKind.u32.wrap ((c:Int)+(x+y))=r∧((c:Int)+(x+y))/4294967296=c'∧c'≤1∧r<2^32∧c+(x+y)=r+2^32*c':=by
 refine⟨(c+(x+y))%2^32,(c+(x+y))/2^32,?_,?_,?_,?_,?_⟩
 ·rw[IntKind.wrap_u32];omega
 all_goals omega
theorem nh (c x:Nat):∃ r k:Nat,
  IntKind.u32.wrap ((x:Int)+c)=r∧r<2^32∧x+c=r+2^32*k:=by
 refine⟨(x+c)%2^32,(x+c)/2^32,?_,?_,?_⟩
 ·rw[IntKind.wrap_u32];omega
 all_goals omega
theorem q0t (u0 u1 top:Nat) (A:u0<2^32) (h1:u1<2^32) (B:2^31≤top) (h2:u0≤top):∃ h g r:Nat,
  bits .or .u64 ((u0:Int)*4294967296) (u1:Int)=h∧h=u0*2^32+u1∧IntKind.u64.wrap ((h:Int)/top)=g∧(h:Int)%top=r∧g=h/top∧g*top+r=h∧r<top∧g≤4294967297:=by
 refine⟨u0*2^32+u1,(u0*2^32+u1)/top,(u0*2^32+u1)%top,?_,rfl,?_,?_,rfl,?_,aU _ dT,?_⟩
 ·rw[show (u0:Int)*4294967296=((u0*2^32:Nat):Int) from by omega,u64_or_nat _ _ dT dT,nat_join 32 _ u1 dT h1]
 ·rw[IntKind.wrap_u64,← dm];have:=bh (u0*2^32+u1) top;generalize (u0*2^32+u1)/top=q at *;omega
 ·rw[← cT]
 ·exact Nat.div_add_mod' _ _
 ·have h3:(u0*2^32+u1)/top<4294967298:=by
   rw[aX dT];have:u0*2^32≤top*2^32:=aq _ h2;omega
  omega
theorem pS (r u2:Nat) (A:r<2^32) (h2:u2<2^32):bits .or .u64 ((r:Int)*4294967296) (u2:Int)=((r*2^32+u2:Nat):Int):=by
 rw[show (r:Int)*4294967296=((r*2^32:Nat):Int) from by omega,u64_or_nat _ _ dT dT,nat_join 32 _ u2 dT h2]
end Go.Proofs.YtfnkkkcojnffdaaGreatDoor
namespace Go.Proofs.YtfnkkkcojnffdaaGreatDoor
open Go.RowKit
open BN
/-- The worlds of a long division: the rows of the number, of its quotient, and of the divisor. -/
structure DS (w wr:World) (bu bq bv ov:Nat) (us qs vl:List Nat):Prop where
 g:G w wr
 hle:w.heap.size≤bu
 hvu:bv<bu
 huq:bu<bq
 u:Own wr bu us
 q:Own wr bq qs
 v:Row wr bv ov vl
theorem DS.setU {w wr:World} {A B C E:Nat} {us F vl:List Nat} (h:DS w wr A B C E us F vl) (i x:Nat) (hi:i<us.length) (K:x<2^32):
  DS w (wr.setCell ⟨A,i,none⟩ (.int .u32 (x:Int))) A B C E (us.set i x) F vl:=by
 have J:=h.huq;have D:=h.hvu;refine⟨h.g.setCell (p:=⟨A,i,none⟩) h.hle _,h.hle,h.hvu,h.huq,Own.set h.u i x hi K,⟨h.q.1,by simpa using h.q.2.1,Row.set h.q.2.2.1 dT,fun k I=>by rw[World.frozen?_setCell];exact h.q.2.2.2 k I⟩,Row.set h.v dT⟩
theorem DS.setQ {w wr:World} {C A D F:Nat} {us B vl:List Nat} (h:DS w wr C A D F us B vl) (i x:Nat) (hi:i<B.length) (K:x<2^32):
  DS w (wr.setCell ⟨A,i,none⟩ (.int .u32 (x:Int))) C A D F us (B.set i x) vl:=by
 have J:=h.huq;have E:=h.hvu;have h3:=h.hle;refine⟨h.g.setCell (p:=⟨A,i,none⟩) (by show _≤A;omega) _,h.hle,h.hvu,h.huq,⟨h.u.1,by simpa using h.u.2.1,Row.set h.u.2.2.1 dT,fun k I=>by rw[World.frozen?_setCell];exact h.u.2.2.2 k I⟩,Own.set h.q i x hi K,Row.set h.v dT⟩
theorem DS.grow {w wr F:World} {B A C D:Nat} {us E vl:List Nat} (h:DS w wr B A C D us E vl) (g:G wr F):DS w F B A C D us E vl:=
 ⟨h.g.trans g,h.hle,h.hvu,h.huq,h.u.grow g,h.q.grow g,h.v.G (by have:=h.u.2.1;have:=h.hvu;omega) g⟩
theorem DS.cv {w wr:World} {D C A B:Nat} {us E vl:List Nat} (h:DS w wr D C A B us E vl) {i:Nat} (hi:i<vl.length):wr.cell? ⟨A,B+i,none⟩=some (.int .u32 (vl.getD i 0:Nat)):=h.v i hi
/-- What holds ahead of digit t - 1. -/
def DInv (us B:List Nat) (t N M V A:Nat):Prop:=us.length=N∧B.length=M∧val us<2^(32*t)*V∧val us+val (B.drop t)*(2^(32*t)*V)=A
theorem DInv.start {us:List Nat} {N M V A n0:Nat} (C:us.length=N) (hv:val us=A) (D:A<2^(32*(n0+1+M))) (B:2^(32*(n0+1)+31)≤V):DInv us (List.replicate M 0) M N M V A:=by
 refine⟨C,by simp,?_,?_⟩
 ·have h1:2^(32*M)*2^(32*(n0+1))≤2^(32*M)*V:=au _ (ch (ak dT dT) B);rw[← ah,show 32*M+32*(n0+1)=32*(n0+1+M) from by omega] at h1;omega
 ·rw[aL eO];simp [val,hv]
theorem q1w {A P z:Nat} (h:A<P):A+P*z<(z+1)*P:=by
 rw[aH,aW,aF];omega
theorem l4 {us vl:List Nat} {A n0 V:Nat} (hu:okw us) (hv:okw vl) (C:vl.length=n0+2) (K:val vl=V) (O:A+n0+2<us.length) (J:val us<2^(32*(A+1))*V):
  us.getD (A+n0+2) 0≤vl.getD (n0+1) 0∧val (us.drop (A+n0+3))=0∧val us<2^32*(2^(32*A)*V)∧
  ((us.getD (A+n0+2) 0*2^32+us.getD (A+n0+1) 0)*2^32+us.getD (A+n0) 0)*2^(32*(A+n0))≤val us∧
  val us<((us.getD (A+n0+2) 0*2^32+us.getD (A+n0+1) 0)*2^32+us.getD (A+n0) 0+1)*2^(32*(A+n0))∧
  (vl.getD (n0+1) 0*2^32+vl.getD n0 0)*2^(32*(A+n0))≤2^(32*A)*V∧
  2^(32*A)*V<(vl.getD (n0+1) 0*2^32+vl.getD n0 0+1)*2^(32*(A+n0)):=by
 have B:=eo hv;rw[C,K] at B;have L:val (us.drop (A+n0+3))=0:=by
  rw[fG hu];refine aN ?_;have h1:2^(32*(A+1))*V≤2^(32*(A+1))*2^(32*(n0+2)):=au _ (cy B);rw[← ah,show 32*(A+1)+32*(n0+2)=32*(A+n0+3) from by omega] at h1;omega
 have h3:=top3 (l:=us) (k:=A+n0) O L;have N:=et hu (A+n0) dT;have D:=top2 C;have h6:=et hv n0 dT;rw[K] at D;have S:=dW hu (A+n0+1);have U:=dW hu (A+n0);have W:=dW hv n0;have E:2^(32*(A+1))*V=2^32*(2^(32*A)*V):=by rw[show 32*(A+1)=32+32*A from by omega,ah,aj]
 have I:2^(32*(A+n0))=2^(32*A)*2^(32*n0):=by rw[ax,ah]
 have F:=ae (32*A);have R:=ae (32*n0);generalize us.getD (A+n0+2) 0=u0 at *;generalize us.getD (A+n0+1) 0=u1 at *;generalize us.getD (A+n0) 0=u2 at *;generalize vl.getD (n0+1) 0=top at *;generalize vl.getD n0 0=next at *
 generalize val (us.take (A+n0))=d at *;generalize val (vl.take n0)=i at *;rw[E] at J;have X:(top*2^32+next)*2^(32*(A+n0))≤2^(32*A)*V:=by
  rw[D,I,ax,aF (top*2^32+next),aj];exact dG _ _
 have Y:2^(32*A)*V<(top*2^32+next+1)*2^(32*(A+n0)):=by
  have:2^(32*A)*V<2^(32*A)*(2^(32*n0)*(top*2^32+next+1)):=by
   refine Nat.mul_lt_mul_of_pos_left ?_ F;rw[D,ax _ (top*2^32+next) 1];omega
  rw[I,aF (top*2^32+next+1),aj];exact this
 have Z:((u0*2^32+u1)*2^32+u2)*2^(32*(A+n0))≤val us:=by rw[h3,aF];exact dG _ _
 have c:val us<((u0*2^32+u1)*2^32+u2+1)*2^(32*(A+n0)):=by
  rw[h3];exact q1w N
 refine⟨?_,L,J,Z,c,X,Y⟩;have M:((u0*2^32+u1)*2^32+u2)*2^(32*(A+n0))<2^32*((top*2^32+next+1)*2^(32*(A+n0))):=by omega
 rw[← aj] at M;have j:=bN M;omega
/-- The state of a guess. -/
def GS (S W h top g r:Nat):Prop:=g*top+r=h∧S<(g+1)*W
/-- The state of the taking away. -/
def AW (us A vl:List Nat) (B n0 i g c d:Nat):Prop:=A.length=us.length∧val (A.drop (B+n0+3))=0∧val A+2^(32*B)*(g*val (vl.take i))=val us+2^(32*(B+i))*(c+d)
theorem AW.start {us vl:List Nat} {A n0 g:Nat} (h:val (us.drop (A+n0+3))=0):AW us us vl A n0 0 g 0 0:=⟨rfl,h,by simp [val]⟩
theorem AW.step {us A vl:List Nat} {B n0 i g c d r c' d':Nat} (h:AW us A vl B n0 i g c d) (hi:i<n0+2) (D:B+n0+2<us.length)
  (C:r+g*vl.getD i 0+c+d=A.getD (i+B) 0+2^32*(c'+d')):AW us (A.set (i+B) r) vl B n0 (i+1) g c' d':=by
 obtain⟨h1,h2,h3⟩:=h;rw[bt i B] at *;exact⟨by rw[av,h1],by rw[fD dT];exact h2,o6 dT rfl rfl h3 C⟩
theorem AW.fin {us A vl:List Nat} {B n0 g c d r d' V:Nat} (h:AW us A vl B n0 (n0+2) g c d) (D:vl.length=n0+2) (C:val vl=V) (F:B+n0+2<us.length)
  (E:r+c+d=A.getD (B+(n0+2)) 0+2^32*d'):
  (A.set (B+(n0+2)) r).length=us.length∧val ((A.set (B+(n0+2)) r).drop (B+n0+3))=0∧val (A.set (B+(n0+2)) r)+g*(2^(32*B)*V)=val us+2^(32*(B+n0+3))*d':=by
 obtain⟨h1,h2,h3⟩:=h;rw[aw dT,C] at h3;exact⟨by rw[av,h1],by rw[fD dT];exact h2,p7 (n:=n0+2) dT rfl h3 E⟩
/-- The state of the giving back. -/
def BK (us A vl:List Nat) (B n0 i c:Nat):Prop:=A.length=us.length∧val (A.drop (B+n0+3))=0∧val A+2^(32*(B+i))*c=val us+2^(32*B)*val (vl.take i)
theorem BK.start {us vl:List Nat} {A n0:Nat} (h:val (us.drop (A+n0+3))=0):BK us us vl A n0 0 0:=⟨rfl,h,by simp [val]⟩
theorem BK.step {us A vl:List Nat} {B n0 i c r c':Nat} (h:BK us A vl B n0 i c) (hi:i<n0+2) (D:B+n0+2<us.length)
  (C:c+(A.getD (i+B) 0+vl.getD i 0)=r+2^32*c'):BK us (A.set (i+B) r) vl B n0 (i+1) c':=by
 obtain⟨h1,h2,h3⟩:=h;rw[bt i B] at *;exact⟨by rw[av,h1],by rw[fD dT];exact h2,o9 dT rfl rfl h3 C⟩
theorem BK.fin {us A vl:List Nat} {B n0 c r k V:Nat} (h:BK us A vl B n0 (n0+2) c) (D:vl.length=n0+2) (C:val vl=V) (F:B+n0+2<us.length)
  (E:A.getD (B+(n0+2)) 0+c=r+2^32*k):
  (A.set (B+(n0+2)) r).length=us.length∧val ((A.set (B+(n0+2)) r).drop (B+n0+3))=0∧val (A.set (B+(n0+2)) r)+2^(32*(B+n0+3))*k=val us+2^(32*B)*V:=by
 obtain⟨h1,h2,h3⟩:=h;rw[aw dT,C] at h3;exact⟨by rw[av,h1],by rw[fD dT];exact h2,pe (n:=n0+2) dT rfl h3 E⟩
/-- A digit is done: the guess was right. -/
theorem DInv.right {us B D:List Nat} {C g N M V A T:Nat} (h:DInv us D (C+1) N M V A) (L:C<M) (K:B.length=us.length) (I:val us<(g+1)*(2^(32*C)*V))
  (J:val B+g*(2^(32*C)*V)=val us+T*0):DInv B (D.set C g) C N M V A:=by
 obtain⟨h1,h2,-,E⟩:=h;obtain⟨F,h6⟩:=l5 I J rfl;exact⟨by rw[K,h1],by rw[av,h2],h6,ke dT E F⟩
/-- A digit is done: the guess was by one too great. -/
theorem DInv.back {us D C K:List Nat} {B g k n0 N M V A:Nat} (h:DInv us K (B+1) N M V A) (c:B<M) (X:C.length=us.length) (R:val us<(g+1)*(2^(32*B)*V))
  (W:g*(2^(32*B)*V)<val us+2^(32*B)*V) (S:V<2^(32*(n0+2)))
  (I:okw D) (J:val (D.drop (B+n0+3))=0) (U:val D+g*(2^(32*B)*V)=val us+2^(32*(B+n0+3))*1)
  (Y:okw C) (Z:val (C.drop (B+n0+3))=0) (hb:val C+2^(32*(B+n0+3))*k=val D+2^(32*B)*V):DInv C (K.set B (g-1)) B N M V A∧0<g:=by
 obtain⟨h1,h2,-,L⟩:=h;have F:2^(32*B)*V≤2^(32*(B+n0+3)):=by
  have E:2^(32*B)*V≤2^(32*B)*2^(32*(n0+2)):=au _ (cy S);rw[← ah] at E;exact ch E (ak dT dT)
 obtain⟨O,h6,E⟩:=ml R W (by simpa using U) (je I J) hb (je Y Z) F;exact⟨⟨by rw[X,h1],by rw[av,h2],h6,ke dT L O⟩,E⟩
/-- At the end. -/
theorem DInv.fin {us C:List Nat} {N M a b p:Nat} (h:DInv us C 0 N M (b*p) (a*p)) (B:0<p) (hb:0<b):val C=a/b∧val us/p=a%b:=by
 obtain⟨-,-,h3,A⟩:=h;simp only[bm,bW,aW,List.drop_zero] at h3 A;have D:a*p/(b*p)=val C:=by
  rw[← A,dz _ _ (bT hb B),aN h3,az]
 have h6:a*p%(b*p)=val us:=by
  rw[← A,dd,aM h3]
 rw[cf _ _ B] at D;rw[cG] at h6;refine⟨D.symm,?_⟩;rw[← h6,cD _ B]
end Go.Proofs.YtfnkkkcojnffdaaGreatDoor
