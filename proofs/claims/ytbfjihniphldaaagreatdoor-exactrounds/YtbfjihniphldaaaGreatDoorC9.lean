/- What is proved here: what a long division of the reference's big numbers needs: a law of 'copy' into a row of our own, words of its digits, over this seat's translation.
What is proved here: what a long division of the reference's big numbers keeps from digit to digit (no program). -/
import Derived.Test.YtbfjihniphldaaaGreatDoorC3
import Derived.Test.YtbfjihniphldaaaGreatDoorC8
import Derived.Laws.IdiomCopy
import Derived.Tactics
namespace Go.Proofs.YtbfjihniphldaaaGreatDoor
open Go.ChangeShapes Go.WideShapes Go.ChangeAt Go.RowKit
open BN
/-- Words laid over a row of our own. -/
theorem Own.cells {w:World} {b:Nat}:∀ {m l:List Nat} {o:Nat},Own w b l→okw m→o+m.length≤l.length→
  Own (w.setCells b o (m.map fun d=> .int .u32 (d:Nat))) b (l.take o++(m++l.drop (o+m.length))):=by
 intro m
 induction m generalizing w with
 |nil=>intro l o h _ _;simpa [World.setCells] using h
 |cons d m ih=>
  intro l o h hm hl;obtain⟨hd,hm'⟩:=okw_cons.1 hm;simp only[List.length_cons] at hl;have h1:=Own.set h o d (by omega) hd;have h2:=ih (l:=l.set o d) (o:=o+1) h1 hm' (by rw[List.length_set];omega);rw[List.map_cons];simp only[World.setCells];have e:(l.set o d).take (o+1)++(m++(l.set o d).drop (o+1+m.length))=l.take o++(d::m++l.drop (o+(m.length+1))):=by
   rw[q1n (by rw[List.length_set];omega),q0H,q0g (by omega),List.drop_set_of_lt (by omega)];simp [Nat.add_comm,Nat.add_left_comm]
  rw[List.length_cons,← e];exact h2
theorem G.setCells {w0:World} {b:Nat} (hb:w0.heap.size≤b):∀ (cs:List Value) (w:World) (o:Nat),G w0 w→G w0 (w.setCells b o cs)
 |[],_,_,h=>h
 |v::cs,_,o,h=>G.setCells hb cs _ _ (h.setCell (p:=⟨b,o,none⟩) hb v)
theorem q29 {a:Nat} (h:a≠0):1≤blen a∧2^(blen a-1)≤a∧a<2^blen a:=by
 unfold blen;rw[if_neg h];have h1:=(Nat.log2_eq_iff (k:=a.log2) h).1 rfl;exact⟨by omega,by rw[Nat.add_sub_cancel];exact h1.1,h1.2⟩
/-- How far the divisor is shifted. -/
theorem q3h {l:List Nat} {n:Nat} (h:canon l) (hn:l.length=n+1):∃ k,1≤k∧k≤32∧blen (val l)=32*n+k∧2^(32*n+31)≤val l*2^(32-k)∧val l*2^(32-k)<2^(32*(n+1)):=by
 have hne:l≠[]:=by intro e;rw[e] at hn;simp at hn
 have h0:val l≠0:=fun e=>hne ((q0V h).1 e);obtain⟨h1,h2,h3⟩:=q29 h0;have h4:=q14 h hne;have h5:=q0v h.1;rw[hn] at h4 h5;have h6:2^(blen (val l)-1)<2^(32*(n+1)):=by omega
 have h7:=(Nat.pow_lt_pow_iff_right (by omega:1<2)).1 h6;have h8:2^(32*(n+1-1))<2^blen (val l):=by omega
 have h9:=(Nat.pow_lt_pow_iff_right (by omega:1<2)).1 h8;obtain⟨k,hk⟩:∃ k,blen (val l)=32*n+k:=⟨blen (val l)-32*n,by omega⟩;rw[hk] at h2 h3 h7 h9 h1;refine⟨k,by omega,by omega,hk,?_,?_⟩
 ·have:2^(32*n+k-1)*2^(32-k)≤val l*2^(32-k):=Nat.mul_le_mul_right _ h2;rw[← Nat.pow_add,show 32*n+k-1+(32-k)=32*n+31 from by omega] at this;exact this
 ·have:val l*2^(32-k)<2^(32*n+k)*2^(32-k):=Nat.mul_lt_mul_of_pos_right h3 (Nat.two_pow_pos _);rw[← Nat.pow_add,show 32*n+k+(32-k)=32*(n+1) from by omega] at this;exact this
/-- The three words at the top. -/
theorem top3 {l:List Nat} {k:Nat} (hl:k+2<l.length) (hz:val (l.drop (k+3))=0):
  val l=val (l.take k)+2^(32*k)*((l.getD (k+2) 0*2^32+l.getD (k+1) 0)*2^32+l.getD k 0):=by
 rw[q0B l k (by omega),q0h (k:=k) (by omega),q0h (k:=k+1) (by omega),q0h (k:=k+2) (by omega)];simp only[val,hz]
 congr 2
 omega
theorem top2 {l:List Nat} {k:Nat} (hl:l.length=k+2):
  val l=val (l.take k)+2^(32*k)*(l.getD (k+1) 0*2^32+l.getD k 0):=by
 rw[q0B l k (by omega),q0h (k:=k) (by omega),q0h (k:=k+1) (by omega),List.drop_eq_nil_of_le (by omega)];simp only[val]
 congr 2
 omega
theorem q5B (c d x:Nat) (hc:c<2^32) (hd:d≤1) (hx:x<2^32):∃ t0 t r d':Nat,
  IntKind.u64.wrap ((x:Int)-c)=t0∧IntKind.u64.wrap ((t0:Int)-d)=t∧IntKind.u32.wrap (t:Int)=r∧(t:Int)/9223372036854775808=d'∧d'≤1∧r<2^32∧r+c+d=x+2^32*d':=by
 refine⟨(x+2^64-c)%2^64,((x+2^64-c)%2^64+2^64-d)%2^64,((x+2^64-c)%2^64+2^64-d)%2^64%2^32,((x+2^64-c)%2^64+2^64-d)%2^64/2^63,?_,?_,?_,?_,?_,?_,?_⟩
 ·rw[IntKind.wrap_u64];omega
 ·rw[IntKind.wrap_u64];omega
 ·rw[IntKind.wrap_u32];omega
 all_goals omega
theorem q9B (g c d x y:Nat) (hg:g<2^32) (hc:c<2^32) (hd:d≤1) (hx:x<2^32) (hy:y<2^32):∃ p lo t0 t r d' c':Nat,
  (g:Int)*y=p∧p≤18446744065119617025∧IntKind.u32.wrap ((c:Int)+p)=lo∧lo<2^32∧((c:Int)+p)/4294967296=c'∧IntKind.u64.wrap ((x:Int)-lo)=t0∧IntKind.u64.wrap ((t0:Int)-d)=t∧IntKind.u32.wrap (t:Int)=r∧
  (t:Int)/9223372036854775808=d'∧d'≤1∧c'<2^32∧r<2^32∧r+g*y+c+d=x+2^32*(c'+d'):=by
 have h:g*y≤4294967295*4294967295:=Nat.mul_le_mul (by omega) (by omega);obtain⟨t0,t,r,d',h1,h2,h3,h4,h5,h6,h7⟩:=q5B ((c+g*y)%2^32) d x (by omega) hd hx;refine⟨g*y,(c+g*y)%2^32,t0,t,r,d',(c+g*y)/2^32,by push_cast;rfl,by omega,?_,by omega,?_,h1,h2,h3,h4,h5,?_,h6,?_⟩
 ·rw[IntKind.wrap_u32];generalize g*y=p at *;omega
 ·generalize g*y=p at *;omega
 all_goals generalize g*y=p at *;omega
theorem q9E (c x y:Nat) (hc:c≤1) (hx:x<2^32) (hy:y<2^32):∃ r c':Nat,
  IntKind.u32.wrap ((c:Int)+(x+y))=r∧((c:Int)+(x+y))/4294967296=c'∧c'≤1∧r<2^32∧c+(x+y)=r+2^32*c':=by
 refine⟨(c+(x+y))%2^32,(c+(x+y))/2^32,?_,?_,?_,?_,?_⟩
 ·rw[IntKind.wrap_u32];omega
 all_goals omega
theorem q7O (c x:Nat):∃ r k:Nat,
  IntKind.u32.wrap ((x:Int)+c)=r∧r<2^32∧x+c=r+2^32*k:=by
 refine⟨(x+c)%2^32,(x+c)/2^32,?_,?_,?_⟩
 ·rw[IntKind.wrap_u32];omega
 all_goals omega
theorem qaA (u0 u1 top:Nat) (h0:u0<2^32) (h1:u1<2^32) (ht:2^31≤top) (h2:u0≤top):∃ h g r:Nat,
  bits .or .u64 ((u0:Int)*4294967296) (u1:Int)=h∧h=u0*2^32+u1∧IntKind.u64.wrap ((h:Int)/top)=g∧(h:Int)%top=r∧g=h/top∧g*top+r=h∧r<top∧g≤4294967297:=by
 refine⟨u0*2^32+u1,(u0*2^32+u1)/top,(u0*2^32+u1)%top,?_,rfl,?_,?_,rfl,?_,Nat.mod_lt _ (by omega),?_⟩
 ·rw[show (u0:Int)*4294967296=((u0*2^32:Nat):Int) from by omega,u64_or_nat _ _ (by omega) (by omega),nat_join 32 _ u1 (by omega) h1]
 ·rw[IntKind.wrap_u64,← Int.natCast_ediv];have:=Nat.div_le_self (u0*2^32+u1) top;generalize (u0*2^32+u1)/top=q at *;omega
 ·rw[← Int.natCast_emod]
 ·exact Nat.div_add_mod' _ _
 ·have h3:(u0*2^32+u1)/top<4294967298:=by
   rw[Nat.div_lt_iff_lt_mul (by omega)];have:u0*2^32≤top*2^32:=Nat.mul_le_mul_right _ h2;omega
  omega
theorem q94 (r u2:Nat) (hr:r<2^32) (h2:u2<2^32):bits .or .u64 ((r:Int)*4294967296) (u2:Int)=((r*2^32+u2:Nat):Int):=by
 rw[show (r:Int)*4294967296=((r*2^32:Nat):Int) from by omega,u64_or_nat _ _ (by omega) (by omega),nat_join 32 _ u2 (by omega) h2]
end Go.Proofs.YtbfjihniphldaaaGreatDoor
namespace Go.Proofs.YtbfjihniphldaaaGreatDoor
open Go.RowKit
open BN
/-- The worlds of a long division: the rows of the number, of its quotient, and of the divisor. -/
structure DS (w wr:World) (bu bq bv ov:Nat) (us qs vl:List Nat):Prop where
 g:G w wr
 hle:w.heap.size≤bu
 hvu:bv<bu
 huq:bu<bq
 u:Own wr bu us
 q:Own wr bq qs
 v:Row wr bv ov vl
theorem DS.setU {w wr:World} {bu bq bv ov:Nat} {us qs vl:List Nat} (h:DS w wr bu bq bv ov us qs vl) (i x:Nat) (hi:i<us.length) (hx:x<2^32):
  DS w (wr.setCell ⟨bu,i,none⟩ (.int .u32 (x:Int))) bu bq bv ov (us.set i x) qs vl:=by
 have hne:=h.huq;have hne2:=h.hvu;refine⟨h.g.setCell (p:=⟨bu,i,none⟩) h.hle _,h.hle,h.hvu,h.huq,Own.set h.u i x hi hx,⟨h.q.1,by simpa using h.q.2.1,Row.set h.q.2.2.1 (by omega),fun k hk=>by rw[World.frozen?_setCell];exact h.q.2.2.2 k hk⟩,Row.set h.v (by omega)⟩
theorem DS.setQ {w wr:World} {bu bq bv ov:Nat} {us qs vl:List Nat} (h:DS w wr bu bq bv ov us qs vl) (i x:Nat) (hi:i<qs.length) (hx:x<2^32):
  DS w (wr.setCell ⟨bq,i,none⟩ (.int .u32 (x:Int))) bu bq bv ov us (qs.set i x) vl:=by
 have hne:=h.huq;have hne2:=h.hvu;have h3:=h.hle;refine⟨h.g.setCell (p:=⟨bq,i,none⟩) (by show _≤bq;omega) _,h.hle,h.hvu,h.huq,⟨h.u.1,by simpa using h.u.2.1,Row.set h.u.2.2.1 (by omega),fun k hk=>by rw[World.frozen?_setCell];exact h.u.2.2.2 k hk⟩,Own.set h.q i x hi hx,Row.set h.v (by omega)⟩
theorem DS.grow {w wr w2:World} {bu bq bv ov:Nat} {us qs vl:List Nat} (h:DS w wr bu bq bv ov us qs vl) (g:G wr w2):DS w w2 bu bq bv ov us qs vl:=
 ⟨h.g.trans g,h.hle,h.hvu,h.huq,h.u.grow g,h.q.grow g,h.v.G (by have:=h.u.2.1;have:=h.hvu;omega) g⟩
theorem DS.cv {w wr:World} {bu bq bv ov:Nat} {us qs vl:List Nat} (h:DS w wr bu bq bv ov us qs vl) {i:Nat} (hi:i<vl.length):wr.cell? ⟨bv,ov+i,none⟩=some (.int .u32 (vl.getD i 0:Nat)):=h.v i hi
/-- What holds ahead of digit t - 1. -/
def DInv (us qs:List Nat) (t N M V A:Nat):Prop:=us.length=N∧qs.length=M∧val us<2^(32*t)*V∧val us+val (qs.drop t)*(2^(32*t)*V)=A
theorem DInv.start {us:List Nat} {N M V A n0:Nat} (hl:us.length=N) (hv:val us=A) (hA:A<2^(32*(n0+1+M))) (hV:2^(32*(n0+1)+31)≤V):DInv us (List.replicate M 0) M N M V A:=by
 refine⟨hl,by simp,?_,?_⟩
 ·have h1:2^(32*M)*2^(32*(n0+1))≤2^(32*M)*V:=Nat.mul_le_mul_left _ (Nat.le_trans (Nat.pow_le_pow_right (by omega) (by omega)) hV);rw[← Nat.pow_add,show 32*M+32*(n0+1)=32*(n0+1+M) from by omega] at h1;omega
 ·rw[List.drop_eq_nil_of_le (by simp)];simp [val,hv]
theorem qb4 {S0 P z:Nat} (h:S0<P):S0+P*z<(z+1)*P:=by
 rw[Nat.add_mul,Nat.one_mul,Nat.mul_comm];omega
theorem q5w {us vl:List Nat} {jj n0 V:Nat} (hu:okw us) (hv:okw vl) (hvl:vl.length=n0+2) (hV:val vl=V) (hl:jj+n0+2<us.length) (hS:val us<2^(32*(jj+1))*V):
  us.getD (jj+n0+2) 0≤vl.getD (n0+1) 0∧val (us.drop (jj+n0+3))=0∧val us<2^32*(2^(32*jj)*V)∧
  ((us.getD (jj+n0+2) 0*2^32+us.getD (jj+n0+1) 0)*2^32+us.getD (jj+n0) 0)*2^(32*(jj+n0))≤val us∧
  val us<((us.getD (jj+n0+2) 0*2^32+us.getD (jj+n0+1) 0)*2^32+us.getD (jj+n0) 0+1)*2^(32*(jj+n0))∧
  (vl.getD (n0+1) 0*2^32+vl.getD n0 0)*2^(32*(jj+n0))≤2^(32*jj)*V∧
  2^(32*jj)*V<(vl.getD (n0+1) 0*2^32+vl.getD n0 0+1)*2^(32*(jj+n0)):=by
 have Na:=q0v hv;rw[hvl,hV] at Na;have hz:val (us.drop (jj+n0+3))=0:=by
  rw[q1m hu];refine Nat.div_eq_of_lt ?_;have h1:2^(32*(jj+1))*V≤2^(32*(jj+1))*2^(32*(n0+2)):=Nat.mul_le_mul_left _ (Nat.le_of_lt Na);rw[← Nat.pow_add,show 32*(jj+1)+32*(n0+2)=32*(jj+n0+3) from by omega] at h1;omega
 have h3:=top3 (l:=us) (k:=jj+n0) hl hz;have h4:=q0u hu (jj+n0) (by omega);have h5:=top2 hvl;have h6:=q0u hv n0 (by omega);rw[hV] at h5;have hu1:=q05 hu (jj+n0+1);have hu2:=q05 hu (jj+n0);have hv1:=q05 hv n0;have hS2:2^(32*(jj+1))*V=2^32*(2^(32*jj)*V):=by rw[show 32*(jj+1)=32+32*jj from by omega,Nat.pow_add,Nat.mul_assoc]
 have eP:2^(32*(jj+n0))=2^(32*jj)*2^(32*n0):=by rw[Nat.mul_add,Nat.pow_add]
 have PN:=Nat.two_pow_pos (32*jj);have hpn:=Nat.two_pow_pos (32*n0);generalize us.getD (jj+n0+2) 0=u0 at *;generalize us.getD (jj+n0+1) 0=u1 at *;generalize us.getD (jj+n0) 0=u2 at *;generalize vl.getD (n0+1) 0=top at *;generalize vl.getD n0 0=next at *
 generalize val (us.take (jj+n0))=S0 at *;generalize val (vl.take n0)=V0 at *;rw[hS2] at hS;have k1:(top*2^32+next)*2^(32*(jj+n0))≤2^(32*jj)*V:=by
  rw[h5,eP,Nat.mul_add,Nat.mul_comm (top*2^32+next),Nat.mul_assoc];exact Nat.le_add_left _ _
 have k2:2^(32*jj)*V<(top*2^32+next+1)*2^(32*(jj+n0)):=by
  have:2^(32*jj)*V<2^(32*jj)*(2^(32*n0)*(top*2^32+next+1)):=by
   refine Nat.mul_lt_mul_of_pos_left ?_ PN;rw[h5,Nat.mul_add _ (top*2^32+next) 1];omega
  rw[eP,Nat.mul_comm (top*2^32+next+1),Nat.mul_assoc];exact this
 have k3:((u0*2^32+u1)*2^32+u2)*2^(32*(jj+n0))≤val us:=by rw[h3,Nat.mul_comm];exact Nat.le_add_left _ _
 have k4:val us<((u0*2^32+u1)*2^32+u2+1)*2^(32*(jj+n0)):=by
  rw[h3];exact qb4 h4
 refine⟨?_,hz,hS,k3,k4,k1,k2⟩;have k5:((u0*2^32+u1)*2^32+u2)*2^(32*(jj+n0))<2^32*((top*2^32+next+1)*2^(32*(jj+n0))):=by omega
 rw[← Nat.mul_assoc] at k5;have k6:=Nat.lt_of_mul_lt_mul_right k5;omega
/-- The state of a guess. -/
def GS (S W h top g r:Nat):Prop:=g*top+r=h∧S<(g+1)*W
/-- The state of the taking away. -/
def AW (us eF vl:List Nat) (jj n0 i g c d:Nat):Prop:=eF.length=us.length∧val (eF.drop (jj+n0+3))=0∧val eF+2^(32*jj)*(g*val (vl.take i))=val us+2^(32*(jj+i))*(c+d)
theorem AW.start {us vl:List Nat} {jj n0 g:Nat} (h:val (us.drop (jj+n0+3))=0):AW us us vl jj n0 0 g 0 0:=⟨rfl,h,by simp [val]⟩
theorem AW.step {us eF vl:List Nat} {jj n0 i g c d r c' d':Nat} (h:AW us eF vl jj n0 i g c d) (hi:i<n0+2) (hl:jj+n0+2<us.length)
  (hw:r+g*vl.getD i 0+c+d=eF.getD (i+jj) 0+2^32*(c'+d')):AW us (eF.set (i+jj) r) vl jj n0 (i+1) g c' d':=by
 obtain⟨h1,h2,h3⟩:=h;rw[Nat.add_comm i jj] at *;exact⟨by rw[List.length_set,h1],by rw[q1r (by omega)];exact h2,q84 (by omega) rfl rfl h3 hw⟩
theorem AW.fin {us eF vl:List Nat} {jj n0 g c d r d' V:Nat} (h:AW us eF vl jj n0 (n0+2) g c d) (hvl:vl.length=n0+2) (hV:val vl=V) (hl:jj+n0+2<us.length)
  (hw:r+c+d=eF.getD (jj+(n0+2)) 0+2^32*d'):
  (eF.set (jj+(n0+2)) r).length=us.length∧val ((eF.set (jj+(n0+2)) r).drop (jj+n0+3))=0∧val (eF.set (jj+(n0+2)) r)+g*(2^(32*jj)*V)=val us+2^(32*(jj+n0+3))*d':=by
 obtain⟨h1,h2,h3⟩:=h;rw[List.take_of_length_le (by omega),hV] at h3;exact⟨by rw[List.length_set,h1],by rw[q1r (by omega)];exact h2,q8N (n:=n0+2) (by omega) rfl h3 hw⟩
/-- The state of the giving back. -/
def BK (us eF vl:List Nat) (jj n0 i c:Nat):Prop:=eF.length=us.length∧val (eF.drop (jj+n0+3))=0∧val eF+2^(32*(jj+i))*c=val us+2^(32*jj)*val (vl.take i)
theorem BK.start {us vl:List Nat} {jj n0:Nat} (h:val (us.drop (jj+n0+3))=0):BK us us vl jj n0 0 0:=⟨rfl,h,by simp [val]⟩
theorem BK.step {us eF vl:List Nat} {jj n0 i c r c':Nat} (h:BK us eF vl jj n0 i c) (hi:i<n0+2) (hl:jj+n0+2<us.length)
  (hw:c+(eF.getD (i+jj) 0+vl.getD i 0)=r+2^32*c'):BK us (eF.set (i+jj) r) vl jj n0 (i+1) c':=by
 obtain⟨h1,h2,h3⟩:=h;rw[Nat.add_comm i jj] at *;exact⟨by rw[List.length_set,h1],by rw[q1r (by omega)];exact h2,q7Z (by omega) rfl rfl h3 hw⟩
theorem BK.fin {us eF vl:List Nat} {jj n0 c r k V:Nat} (h:BK us eF vl jj n0 (n0+2) c) (hvl:vl.length=n0+2) (hV:val vl=V) (hl:jj+n0+2<us.length)
  (hw:eF.getD (jj+(n0+2)) 0+c=r+2^32*k):
  (eF.set (jj+(n0+2)) r).length=us.length∧val ((eF.set (jj+(n0+2)) r).drop (jj+n0+3))=0∧val (eF.set (jj+(n0+2)) r)+2^(32*(jj+n0+3))*k=val us+2^(32*jj)*V:=by
 obtain⟨h1,h2,h3⟩:=h;rw[List.take_of_length_le (by omega),hV] at h3;exact⟨by rw[List.length_set,h1],by rw[q1r (by omega)];exact h2,q8D (n:=n0+2) (by omega) rfl h3 hw⟩
/-- A digit is done: the guess was right. -/
theorem DInv.right {us eF qs:List Nat} {jj g N M V A T:Nat} (h:DInv us qs (jj+1) N M V A) (hj:jj<M) (hl:eF.length=us.length) (hS:val us<(g+1)*(2^(32*jj)*V))
  (he:val eF+g*(2^(32*jj)*V)=val us+T*0):DInv eF (qs.set jj g) jj N M V A:=by
 obtain⟨h1,h2,-,h4⟩:=h;obtain⟨h5,h6⟩:=q5R hS he rfl;exact⟨by rw[hl,h1],by rw[List.length_set,h2],h6,q4P (by omega) h4 h5⟩
/-- A digit is done: the guess was by one too great. -/
theorem DInv.back {us G8 eF qs:List Nat} {jj g k n0 N M V A:Nat} (h:DInv us qs (jj+1) N M V A) (hj:jj<M) (hl:eF.length=us.length) (hS:val us<(g+1)*(2^(32*jj)*V))
  (hg:g*(2^(32*jj)*V)<val us+2^(32*jj)*V) (hV:V<2^(32*(n0+2)))
  (ho1:okw G8) (hz1:val (G8.drop (jj+n0+3))=0) (he:val G8+g*(2^(32*jj)*V)=val us+2^(32*(jj+n0+3))*1)
  (ho:okw eF) (hz:val (eF.drop (jj+n0+3))=0) (hb:val eF+2^(32*(jj+n0+3))*k=val G8+2^(32*jj)*V):DInv eF (qs.set jj (g-1)) jj N M V A∧0<g:=by
 obtain⟨h1,h2,-,h4⟩:=h;have Nb:2^(32*jj)*V≤2^(32*(jj+n0+3)):=by
  have h7:2^(32*jj)*V≤2^(32*jj)*2^(32*(n0+2)):=Nat.mul_le_mul_left _ (Nat.le_of_lt hV);rw[← Nat.pow_add] at h7;exact Nat.le_trans h7 (Nat.pow_le_pow_right (by omega) (by omega))
 obtain⟨h5,h6,h7⟩:=q6I hS hg (by simpa using he) (q4f ho1 hz1) hb (q4f ho hz) Nb;exact⟨⟨by rw[hl,h1],by rw[List.length_set,h2],h6,q4P (by omega) h4 h5⟩,h7⟩
/-- At the end. -/
theorem DInv.fin {us qs:List Nat} {N M a b p:Nat} (h:DInv us qs 0 N M (b*p) (a*p)) (hp:0<p) (hb:0<b):val qs=a/b∧val us/p=a%b:=by
 obtain⟨-,-,h3,h4⟩:=h;simp only[Nat.mul_zero,Nat.pow_zero,Nat.one_mul,List.drop_zero] at h3 h4;have h5:a*p/(b*p)=val qs:=by
  rw[← h4,Nat.add_mul_div_right _ _ (Nat.mul_pos hb hp),Nat.div_eq_of_lt h3,Nat.zero_add]
 have h6:a*p%(b*p)=val us:=by
  rw[← h4,Nat.add_mul_mod_self_right,Nat.mod_eq_of_lt h3]
 rw[Nat.mul_div_mul_right _ _ hp] at h5;rw[Nat.mul_mod_mul_right] at h6;refine⟨h5.symm,?_⟩;rw[← h6,Nat.mul_div_cancel _ hp]
end Go.Proofs.YtbfjihniphldaaaGreatDoor
