/- What is proved here: sums of lists in which entries change places; bounds of sums (no program), over this seat's translation.
What is proved here: the reference's ratios told by core's fractions: a float's, sums, differences, products, over this seat's translation.
What is proved here: the reference's ratios told by core's fractions, new ones too: products, Cmp, over this seat's translation.
What is proved here: what front takes off a product of sums (no program), over this seat's translation.
What is proved here: contracts of the reference: F, CheckList, over this seat's translation.
What is proved here: contracts of the reference: add, over this seat's translation.
What is proved here: contracts of package expan: total, over this seat's translation.
What is proved here: contracts of package expan: front, over this seat's translation.
What is proved here: contracts of package expan: whole, Of, over this seat's translation.
What is proved here: what front takes off sums and products of sums (no program), over this seat's translation.
What is proved here: contracts of package expan: Sum, Cmp, over this seat's translation.
What is proved here: contracts of package expan: whole, Mul, their lists in blocks of their own, over this seat's translation.
What is proved here: contracts of package expan: the pair of a number, over this seat's translation.
What is proved here: contracts of package expan: what a pair tells, and pairs reckoned with, over this seat's translation.
What is proved here: contracts of package expan: quotients of pairs, over this seat's translation.
What is proved here: the closed fact on sums told by several floats, over this seat's translation.
What is proved here: the closed fact on sums told by several floats holds, over this seat's translation.
What is proved here: contracts of package expan: lists that are too long, numbers without a pair, pairs that are none, over this seat's translation.
What is proved here: contracts of package expan: what is reckoned of two pairs, whatever comes of it, over this seat's translation.
What is proved here: contracts of package expan: Add, Sub, Mul and Quo of pairs, out of what is reckoned of two pairs, over this seat's translation. -/
import Derived.Test.YtljkfjjchkehaaaGreatDoorP33
import Derived.Test.YtljkfjjchkehaaaGreatDoorP24
import Derived.Test.YtljkfjjchkehaaaGreatDoorP24
import Derived.Test.YtljkfjjchkehaaaGreatDoorP26
import Derived.Test.YtljkfjjchkehaaaGreatDoorP25
import Derived.Test.YtljkfjjchkehaaaGreatDoorP2
import Derived.Laws.IdiomCopy
namespace Go.Proofs.YtljkfjjchkehaaaGreatDoor.EN
open Go.RowKit
/-- Two entries change places. -/
def swap (l:List Nat) (p q:Nat):List Nat:=(l.set p (l.getD q 0)).set q (l.getD p 0)
theorem getD_map {f:Nat→Int} {l:List Nat} {i:Nat} (h:i<l.length):(l.map f).getD i 0=f (l.getD i 0):=by
 rw[List.getD_eq_getElem?_getD,List.getElem?_map,List.getD_eq_getElem?_getD,List.getElem?_eq_getElem h]
 rfl
/-- 1 for what is no number or infinite. -/
def bad (b:Nat):Int:=if fex b<2047 then 0 else 1
/-- Each word is below 2 to the power of 2099 units; sums of so many. -/
theorem q6E (b:Nat):(fz b).natAbs<2^2099:=by
 have hr:=rung_lt b
 have h:FT.v (FT.rung b)<2^2099:=by
  obtain⟨M,hM⟩:∃ M:Nat,M=2046:=⟨_,rfl⟩
  rw[show 2099=53+M from by omega,Nat.pow_add,v_ug]
  have h1:ug (FT.rung b)≤2^M:=Nat.pow_le_pow_right (by omega) (by omega)
  have h2:(if FT.rung b<2^52 then FT.rung b else 2^52+FT.rung b%2^52)<2^53:=by split<;>omega
  exact Nat.lt_of_lt_of_le (Nat.mul_lt_mul_of_pos_right h2 (q9Q _)) (Nat.mul_le_mul_left _ h1)
 unfold fz
 split
 ·rw[Int.natAbs_neg,Int.natAbs_natCast];exact h
 ·rw[Int.natAbs_natCast];exact h
theorem q9I (B:Nat):∀ l:List Int,(∀ z∈l,z.natAbs≤B)→l.sum.natAbs≤l.length*B
 |[],_=>by simp
 |a::l,h=>by
  have h1:=q9I B l fun z hz=>h z (List.mem_cons_of_mem _ hz)
  have h2:=h a (List.mem_cons_self ..)
  rw[List.sum_cons,List.length_cons,Nat.add_mul,Nat.one_mul]
  omega
theorem q4o {l:List Nat} (h:l.length≤2048) {k:Nat} (hk:k=41):(l.map fz).sum.natAbs<2^(52*k):=by
 obtain⟨M,hM⟩:∃ M:Nat,M=2099:=⟨_,rfl⟩
 have h1:=q9I (2^M) (l.map fz) (fun z hz=>by
  obtain⟨b,-,rfl⟩:=List.mem_map.1 hz
  rw[hM]
  exact Nat.le_of_lt (q6E b))
 rw[List.length_map] at h1
 refine Nat.lt_of_le_of_lt (Nat.le_trans h1 (Nat.mul_le_mul_right _ h)) ?_
 rw[show (2048:Nat)=2^11 from rfl,← Nat.pow_add]
 exact Nat.pow_lt_pow_right (by omega) (by omega)
end Go.Proofs.YtljkfjjchkehaaaGreatDoor.EN
namespace Go.Proofs.YtljkfjjchkehaaaGreatDoor.EN
open Go.ChangeShapes Go.WideShapes Go.ChangeAt Go.RowKit
/-- At block p lies the reference's ratio of a fraction. -/
def RIs (w:World) (p:Nat) (q:Rat):Prop:=RatIs w p q.num (q.den:Int)
theorem RIs.G {w w':World} {p:Nat} {q:Rat} (h:RIs w p q) (hp:p<w.heap.size) (g:G w w'):RIs w' p q:=RatIs.G h hp g
/-- A call hands back a new ratio. -/
def q5T (w:World) (q:Rat) (e:Ending) (w':World):Prop:=∃ p,e= .returned (.pointer (some ⟨p,0,none⟩))∧G w w'∧w.heap.size≤p∧p<w'.heap.size∧RIs w' p q
/-- A call sets a ratio. -/
def SetRat (w:World) (b:Nat) (q:Rat) (e:Ending) (w':World):Prop:=e= .returned (.pointer (some ⟨b,0,none⟩))∧GX b w w'∧RIs w' b q
theorem SetRat.ret {w0 w:World} {b:Nat} {q:Rat} {e:Ending} {w':World} (g:G w0 w) (hb:w0.heap.size≤b) (hs:b<w.heap.size) (h:SetRat w b q e w'):q5T w0 q e w':=
 ⟨b,h.1,GX.fresh g h.2.1 hb,hb,Nat.lt_of_lt_of_le hs h.2.1.size,h.2.2⟩
theorem q1Y (w:World) (b:Nat) (h:b<2^64) (hf:fex b<2047):Calls Tryz.prog 30 #[.float .f64 b] w (q5T w (Uz (fz b))):=by
 have hq:FQ b=Uz (fz b):=q51 h hf
 obtain⟨e1,e2⟩:=q23 (q5A (fex b)) (q:=FQ b) rfl
 refine(qbS w b (fex b) (b%2^52) (fmag b) h rfl rfl hf rfl).mono ?_
 rintro e w' ⟨p,rfl,g,k1,k2,k3⟩
 refine⟨p,rfl,g,k1,k2,?_⟩
 rw[← hq]
 unfold RIs
 rw[e1,e2]
 exact k3
theorem qb32 {q:Rat} {K:Nat} (h:QB q K):q.num.natAbs<2^(32*(2*K))∧q.den<2^(32*(2*K)):=by
 have e:32*(2*K)=64*K:=by omega
 rw[e]
 exact h
theorem q89 (w:World) (bz bx b2:Nat) (s1 s2:Int) (x y:Rat) (K:Nat) (hK:K≤40000) (qx:QB x K) (qy:QB y K)
  (hbz:bz<w.heap.size) (hbx:bx<w.heap.size) (hby:b2<w.heap.size) (hz:RatIs w bz s1 s2) (hx:RIs w bx x) (hy:RIs w b2 y):
  Calls Tryz.prog 31 #[.pointer (some ⟨bz,0,none⟩),.pointer (some ⟨bx,0,none⟩),.pointer (some ⟨b2,0,none⟩)] w (SetRat w bz (x-y)):=by
 obtain⟨e1,e2⟩:=q23 (Nat.mul_pos x.den_pos y.den_pos) (q:=x-y) (Rat.sub_def' x y)
 refine(qbx w bz bx b2 s1 s2 x.num y.num x.den y.den (2*K) (by omega) (qb32 qx).1 (qb32 qy).1 (qb32 qx).2 (qb32 qy).2 x.den_pos y.den_pos hbz hbx hby hz hx hy).mono ?_
 rintro e w' ⟨k1,k2,k3⟩
 refine⟨k1,k2,?_⟩
 unfold RIs
 rw[e1,e2]
 exact k3
/-- The same, or a new ratio, which stands for 0. -/
def RV (w:World) (p:Nat) (q:Rat):Prop:=RIs w p q∨(q=0∧RatIs w p 0 0)
theorem RV.G {w w':World} {p:Nat} {q:Rat} (h:RV w p q) (hp:p<w.heap.size) (g:G w w'):RV w' p q:=by
 rcases h with h|⟨h1,h⟩
 ·exact Or.inl (h.G hp g)
 ·exact Or.inr ⟨h1,RatIs.G h hp g⟩
theorem RV.v {w:World} {p:Nat} {q:Rat} (h:RV w p q):RatV w p q.num q.den:=by
 rcases h with h|⟨rfl,h⟩
 ·exact Or.inl h
 ·exact Or.inr ⟨rfl,rfl,h⟩
theorem qbZ (w:World) (bz bx b2:Nat) (s1 s2:Int) (x y:Rat) (K:Nat) (hK:K≤40000) (qx:QB x K) (qy:QB y K)
  (hbz:bz<w.heap.size) (hbx:bx<w.heap.size) (hby:b2<w.heap.size) (hz:RatIs w bz s1 s2) (hx:RV w bx x) (hy:RV w b2 y):
  Calls Tryz.prog 29 #[.pointer (some ⟨bz,0,none⟩),.pointer (some ⟨bx,0,none⟩),.pointer (some ⟨b2,0,none⟩)] w (SetRat w bz (x+y)):=by
 obtain⟨e1,e2⟩:=q23 (Nat.mul_pos x.den_pos y.den_pos) (q:=x+y) (Rat.add_def' x y)
 refine(qbK w bz bx b2 s1 s2 x.num y.num x.den y.den (2*K) (by omega) (qb32 qx).1 (qb32 qy).1 (qb32 qx).2 (qb32 qy).2 x.den_pos y.den_pos hbz hbx hby hz hx.v hy.v).mono ?_
 rintro e w' ⟨k1,k2,k3⟩
 refine⟨k1,k2,?_⟩
 unfold RIs
 rw[e1,e2]
 exact k3
theorem q3t (w:World) (bz bx b2:Nat) (s1 s2:Int) (x y:Rat) (K:Nat) (hK:K≤40000) (qx:QB x K) (qy:QB y K)
  (hbz:bz<w.heap.size) (hbx:bx<w.heap.size) (hby:b2<w.heap.size) (hz:RatIs w bz s1 s2) (hx:RIs w bx x) (hy:RIs w b2 y):
  Calls Tryz.prog 29 #[.pointer (some ⟨bz,0,none⟩),.pointer (some ⟨bx,0,none⟩),.pointer (some ⟨b2,0,none⟩)] w (SetRat w bz (x+y)):=
 qbZ w bz bx b2 s1 s2 x y K hK qx qy hbz hbx hby hz (Or.inl hx) (Or.inl hy)
theorem qbf (w:World) (bz bx b2:Nat) (s1 s2:Int) (x y:Rat) (K:Nat) (hK:K≤40000) (qx:QB x K) (qy:QB y K)
  (hbz:bz<w.heap.size) (hbx:bx<w.heap.size) (hby:b2<w.heap.size) (hz:RatIs w bz s1 s2) (hx:RV w bx x) (hy:RV w b2 y):
  Calls Tryz.prog 14 #[.pointer (some ⟨bz,0,none⟩),.pointer (some ⟨bx,0,none⟩),.pointer (some ⟨b2,0,none⟩)] w (SetRat w bz (x*y)):=by
 obtain⟨e1,e2⟩:=q23 (Nat.mul_pos x.den_pos y.den_pos) (q:=x*y) (Rat.mul_def' x y)
 refine(qbL w bz bx b2 s1 s2 x.num y.num x.den y.den (2*K) (by omega) (qb32 qx).1 (qb32 qy).1 (qb32 qx).2 (qb32 qy).2 x.den_pos y.den_pos hbz hbx hby hz hx.v hy.v).mono ?_
 rintro e w' ⟨k1,k2,k3⟩
 refine⟨k1,k2,?_⟩
 unfold RIs
 rw[e1,e2]
 exact k3
theorem q9X (w:World) (bz bx b2:Nat) (s1 s2:Int) (x y:Rat) (K:Nat) (hK:K≤40000) (qx:QB x K) (qy:QB y K)
  (hbz:bz<w.heap.size) (hbx:bx<w.heap.size) (hby:b2<w.heap.size) (hz:RatIs w bz s1 s2) (hx:RIs w bx x) (hy:RIs w b2 y):
  Calls Tryz.prog 14 #[.pointer (some ⟨bz,0,none⟩),.pointer (some ⟨bx,0,none⟩),.pointer (some ⟨b2,0,none⟩)] w (SetRat w bz (x*y)):=
 qbf w bz bx b2 s1 s2 x y K hK qx qy hbz hbx hby hz (Or.inl hx) (Or.inl hy)
end Go.Proofs.YtljkfjjchkehaaaGreatDoor.EN
namespace Go.Proofs.YtljkfjjchkehaaaGreatDoor.EN
open Go.RowKit
/-- So many finer units, U of them to a unit. -/
def Wz (U:Nat) (z:Int):Rat:=mkRat z (2^1074*U)
theorem q4i {U:Nat} (hU:0<U) (z:Int):z.natAbs*(Wz U z).den=(Wz U z).num.natAbs*(2^1074*U):=by
 have h:=mk_cross (q:=Wz U z) (Nat.mul_pos q0w hU) rfl
 have h2:=congrArg Int.natAbs h
 rw[Int.natAbs_mul,Int.natAbs_mul,Int.natAbs_natCast,Int.natAbs_natCast] at h2
 exact h2
theorem q9z {U:Nat} (hU:0<U) (a:Int):Uz a=Wz U (a*(U:Int)):=by
 unfold Uz Wz
 obtain⟨M,hM⟩:∃ M:Nat,M=2^1074:=⟨_,rfl⟩
 have hp:0<M:=by rw[hM];exact q0w
 rw[← hM]
 rw[← Rat.divInt_ofNat,← Rat.divInt_ofNat,Rat.divInt_eq_divInt_iff (by omega) (by have:=Nat.mul_pos hp hU;omega)]
 push_cast
 ac_rfl
theorem qbA {U:Nat} (hU:0<U) (x y:Int):Wz U x-Wz U y=Wz U (x-y):=by
 unfold Wz
 have hp:=Nat.mul_pos q0w hU
 generalize 2^1074*U=D at *
 rw[Rat.sub_eq_add_neg,Rat.neg_mkRat,← Rat.divInt_ofNat,← Rat.divInt_ofNat,← Rat.divInt_ofNat,Rat.divInt_add_divInt _ _ (by omega) (by omega)]
 rw[Rat.divInt_eq_divInt_iff (by have:(D:Int)*D≠0:=by apply Int.mul_ne_zero<;>omega
                                 exact this) (by omega)]
 rw[← Int.add_mul,Int.mul_assoc,Int.sub_eq_add_neg]
theorem q2Q {U:Nat} (hU:0<U) {z:Int}:Wz U z=0↔z=0:=by
 have h:=q4i hU z
 have hd:=(Wz U z).den_pos
 have hp:=Nat.mul_pos q0w hU
 have h0:Wz U 0=0:=Rat.zero_mkRat _
 generalize 2^1074*U=D at *
 constructor
 ·intro e
  have:(Wz U z).num.natAbs=0:=by rw[e];rfl
  rw[this,Nat.zero_mul] at h
  rcases Nat.mul_eq_zero.1 h with h|h<;>omega
 ·intro e
  rw[e]
  exact h0
theorem q8u {U:Nat} (hU:0<U) (z:Int):decide ((Wz U z).num<0)=decide (z<0):=by
 have h:=mk_cross (q:=Wz U z) (Nat.mul_pos q0w hU) rfl
 have hd:=(Wz U z).den_pos
 have hp:=Nat.mul_pos q0w hU
 have h3:=congrArg Int.sign h
 generalize 2^1074*U=D at *
 rw[Int.sign_mul,Int.sign_mul,Int.sign_eq_one_of_pos (a:=((Wz U z).den:Int)) (by omega),Int.sign_eq_one_of_pos (a:=(D:Int)) (by omega),Int.mul_one,Int.mul_one] at h3
 refine decide_eq_decide.2 ⟨fun k=> ?_,fun k=> ?_⟩
 ·rw[Int.sign_eq_neg_one_of_neg k] at h3
  exact Int.sign_eq_neg_one_iff_neg.1 h3
 ·rw[Int.sign_eq_neg_one_of_neg k] at h3
  exact Int.sign_eq_neg_one_iff_neg.1 h3.symm
/-- The nearest float of a number of finer units. -/
theorem q8y {U:Nat} (hU:0<U) {z:Int} (h0:z≠0) (hf:rV (Wz U z)<2047*2^52):
  2*z.natAbs≤(2*FT.v (rV (Wz U z))+ug (rV (Wz U z)))*U∧2*(FT.v (rV (Wz U z))*U)≤2*z.natAbs+ug (rV (Wz U z))*U:=by
 have hq:Wz U z≠0:=fun h=>h0 ((q2Q hU).1 h)
 have hA:(Wz U z).num.natAbs≠0:=fun h1=>hq (Rat.num_eq_zero.1 (by omega))
 have h:=q5b (decide ((Wz U z).num<0)) hA (Wz U z).den_nz hf
 have hc:=q4i hU z
 obtain⟨h1,h2,-⟩:=h
 have hd:=(Wz U z).den_pos
 unfold rV
 generalize rdV 1 (decide ((Wz U z).num<0)) (Wz U z).num.natAbs (Wz U z).den=V at *
 generalize (Wz U z).den=d at *
 generalize (Wz U z).num.natAbs=A at *
 generalize z.natAbs=N at *
 generalize ug V=g at *
 generalize FT.v V=x at *
 generalize 2^1074=M at *
 have hc':N*d=A*M*U:=by rw[hc,Nat.mul_assoc]
 constructor
 ·refine Nat.le_of_mul_le_mul_right ?_ hd
  have h3:=Nat.mul_le_mul_right U h1
  calc 2*N*d=2*(A*M)*U:=by rw[Nat.mul_assoc,hc'];ac_rfl
   _≤(2*x+g)*d*U:=h3
   _=(2*x+g)*U*d:=by ac_rfl
 ·refine Nat.le_of_mul_le_mul_right ?_ hd
  have h3:=Nat.mul_le_mul_right U h2
  calc 2*(x*U)*d=2*x*d*U:=by ac_rfl
   _≤(2*(A*M)+g*d)*U:=h3
   _=(2*N+g*U)*d:=by rw[Nat.add_mul,Nat.add_mul,Nat.mul_assoc 2 N,hc'];ac_rfl
/-- A number no greater than half a unit has no float. -/
theorem q7i {A B:Nat} (s:Bool) (hA:A≠0) (hB:B≠0) (h:2*(A*2^1074)≤B):rdV 1 s A B=0:=by
 have hx:expo A B≤ -1022:=by
  refine Decidable.byContradiction fun hc=> ?_
  have hc2: -((1074:Nat):Int)≤expo A B:=by clear h;omega
  have h1:=q2E hA hB 1074 hc2
  have h2:2^1≤2^(((1074:Nat):Int)+expo A B).toNat:=Nat.pow_le_pow_right (by omega) (by clear h h1;omega)
  have h3:=Nat.mul_le_mul_left B h2
  generalize 2^(((1074:Nat):Int)+expo A B).toNat=E at *
  generalize A*2^1074=X at *
  omega
 have hP:q0M A B= -1074:=by
  unfold q0M
  clear h
  omega
 have hu:upP A (-1074)=A*2^1074:=by unfold upP;rw[show (-(-1074:Int)).toNat=1074 from rfl]
 have hl:loP B (-1074)=B:=Nat.mul_one B
 generalize A*2^1074=X at *
 have hlt:X<B:=by omega
 have ht:tV A B=0:=by
  unfold tV
  rw[hP,if_neg (show ¬ (971:Int)< -1074 by omega),hu,hl,Nat.div_eq_of_lt hlt]
  rfl
 have hL:lV A B=q1x X B:=by
  unfold lV
  rw[hP,if_neg (show ¬ (971:Int)< -1074 by omega),hu,hl,Nat.mod_eq_of_lt hlt]
 unfold rdV
 rw[ht,hL]
 unfold q1x
 by_cases h0:X=0
 ·rw[if_pos h0];rfl
 ·rw[if_neg h0]
  by_cases h1:2*X<B
  ·rw[if_pos h1];rfl
  ·rw[if_neg h1,if_pos (show 2*X=B by omega)];rfl
theorem q7H {U:Nat} (hU:0<U) {z:Int} (h0:z≠0) (h:2*z.natAbs≤U):rV (Wz U z)=0:=by
 have hq:Wz U z≠0:=fun h=>h0 ((q2Q hU).1 h)
 have hA:(Wz U z).num.natAbs≠0:=fun h1=>hq (Rat.num_eq_zero.1 (by omega))
 refine q7i _ hA (Wz U z).den_nz ?_
 have hc:=q4i hU z
 generalize (Wz U z).den=d at *
 generalize (Wz U z).num.natAbs=A at *
 generalize z.natAbs=N at *
 generalize 2^1074=M at *
 refine Nat.le_of_mul_le_mul_right ?_ hU
 calc 2*(A*M)*U=2*(A*(M*U)):=by ac_rfl
  _=2*N*d:=by rw[← hc];ac_rfl
  _≤U*d:=Nat.mul_le_mul_right d h
  _=d*U:=Nat.mul_comm _ _
/-- What is left. -/
theorem q8m {U:Nat} (hU:0<U) {z:Int} (h0:z≠0) (hf:rV (Wz U z)<2047*2^52):
  2*(z-fz (nR (Wz U z))*(U:Int)).natAbs≤U∨(z-fz (nR (Wz U z))*(U:Int)).natAbs*2^51≤z.natAbs:=by
 obtain⟨h1,h2⟩:=q8y hU h0 hf
 have hn:nR (Wz U z)=FT.wrd (decide (z<0)) (rV (Wz U z)):=by unfold nR;rw[q8u hU]
 rw[hn,q5S _ (by omega)]
 have hv:FT.v (rV (Wz U z))*U*2^52≥ug (rV (Wz U z))*U*2^52∨True:=Or.inr trivial
 have hb:ug (rV (Wz U z))=1∨2^52*ug (rV (Wz U z))≤FT.v (rV (Wz U z)):=by
  by_cases hc:2^52≤rV (Wz U z)
  ·exact Or.inr (qb1 hc)
  ·left
   unfold ug
   rw[show rV (Wz U z)/2^52-1=0 from by omega,Nat.pow_zero]
 generalize rV (Wz U z)=V at *
 obtain⟨X,hX⟩:∃ X:Nat,X=FT.v V*U:=⟨_,rfl⟩
 obtain⟨Y,hY⟩:∃ Y:Nat,Y=ug V*U:=⟨_,rfl⟩
 rw[Nat.add_mul,Nat.mul_assoc,← hX,← hY] at h1
 rw[← hX,← hY] at h2
 have hr:(z-(if decide (z<0)=true then -(FT.v V:Int) else FT.v V)*(U:Int)).natAbs=((z.natAbs:Int)-X).natAbs:=by
  have Cy:(X:Int)=(FT.v V:Int)*U:=by rw[hX];push_cast;rfl
  by_cases hs:z<0
  ·rw[decide_eq_true hs,if_pos rfl,Int.neg_mul,← Cy];omega
  ·rw[decide_eq_false hs,if_neg (by simp),← Cy];omega
 rw[hr]
 rcases hb with hb|hb
 ·left
  rw[hb,Nat.one_mul] at hY
  omega
 ·right
  have h3:=Nat.mul_le_mul_right U hb
  rw[Nat.mul_assoc,← hX,← hY] at h3
  omega
theorem q85 {k:Nat} {x:Rat} {L:List Nat} {o:Bool} (h:Fr k x L o):∀ k',L.length<k→L.length<k'→Fr k' x L o:=by
 induction h with
 |zero k=>exact fun k' _ _=> .zero k'
 |most v=>exact fun k' h _=>absurd h (Nat.not_lt_zero _)
 |bad k v h0 hq hb=>
  intro k' _ h2
  obtain⟨n,rfl⟩:∃ n,k'=n+1:=⟨k'-1,by omega⟩
  exact .bad n v h0 hq hb
 |step k v l o h0 hq h1 h2 h ih=>
  intro k' h3 h4
  rw[List.length_cons] at h3 h4
  obtain⟨n,rfl⟩:∃ n,k'=n+1:=⟨k'-1,by omega⟩
  exact .step n v l o h0 hq h1 h2 (ih n (by omega) (by omega))
/-- There is what is taken off a number of finer units. -/
theorem qar {U:Nat} (hU:0<U) (J:Nat) (hq:∀ z:Int,2*z.natAbs≤U*2^(51*J)→QB (Wz U z) 80):∀ (j:Nat) (z:Int),j≤J→2*z.natAbs≤U*2^(51*j)→∃ L o,Fr (j+1) (Wz U z) L o∧L.length≤j:=by
 have hup:∀ (j:Nat) (z:Int),j≤J→2*z.natAbs≤U*2^(51*j)→QB (Wz U z) 80:=fun j z hj h=>hq z (Nat.le_trans h (Nat.mul_le_mul_left U (Nat.pow_le_pow_right (by omega) (by omega))))
 intro j
 induction j with
 |zero=>
  intro z hj h
  by_cases h0:z=0
  ·exact⟨[],true,by rw[(q2Q hU).2 h0];exact .zero _,Nat.le_refl _⟩
  ·have hV:=q7H hU h0 (by rw[Nat.mul_zero,Nat.pow_zero,Nat.mul_one] at h;exact h)
   have hn:nR (Wz U z)=FT.wrd (decide (z<0)) 0:=by unfold nR;rw[q8u hU,hV]
   have hf:FQ (nR (Wz U z))=0:=by
    rw[hn,q51 (by unfold FT.wrd;split<;>omega) (by rw[q5j _ (by omega)];omega),uz_eq_zero,q5S _ (by omega)]
    have:FT.v 0=0:=rfl
    rw[this]
    split<;>rfl
   exact⟨[],false,.bad _ _ (fun e=>h0 ((q2Q hU).1 e)) (hup 0 z hj h) (Or.inr hf),Nat.le_refl _⟩
 |succ j ih=>
  intro z hj h
  by_cases h0:z=0
  ·exact⟨[],true,by rw[(q2Q hU).2 h0];exact .zero _,Nat.zero_le _⟩
  ·have hne:Wz U z≠0:=fun e=>h0 ((q2Q hU).1 e)
   have hqz:=hup (j+1) z hj h
   have hle:=q95 hne
   have hn:nR (Wz U z)=FT.wrd (decide (z<0)) (rV (Wz U z)):=by unfold nR;rw[q8u hU]
   have hfx:fex (nR (Wz U z))=rV (Wz U z)/2^52:=by rw[hn];exact q5j _ hle
   by_cases hf:rV (Wz U z)<2047*2^52
   ·have hfin:fex (nR (Wz U z))<2047:=by rw[hfx];omega
    have hlt:nR (Wz U z)<2^64:=by rw[hn];exact FT.wrd_lt _ _ (by omega)
    by_cases hz:FQ (nR (Wz U z))=0
    ·exact⟨[],false,.bad _ _ hne hqz (Or.inr hz),Nat.zero_le _⟩
    ·have GM:FQ (nR (Wz U z))=Wz U (fz (nR (Wz U z))*(U:Int)):=by rw[q51 hlt hfin];exact q9z hU _
     have hsm:2*(z-fz (nR (Wz U z))*(U:Int)).natAbs≤U*2^(51*j):=by
      rcases q8m hU h0 hf with h1|h1
      ·exact Nat.le_trans h1 (Nat.le_mul_of_pos_right U (Nat.two_pow_pos _))
      ·rw[show 51*(j+1)=51*j+51 from by omega,Nat.pow_add,← Nat.mul_assoc] at h
       generalize (z-fz (nR (Wz U z))*(U:Int)).natAbs=r at *
       generalize U*2^(51*j)=Y at *
       omega
     obtain⟨L,o,hL,hlen⟩:=ih _ (by omega) hsm
     exact⟨nR (Wz U z)::L,o,.step _ _ _ _ hne hqz hfin hz (by rw[GM,qbA hU];exact hL),Nat.succ_le_succ hlen⟩
   ·exact⟨[],false,.bad _ _ hne hqz (Or.inl (by rw[hfx];omega)),Nat.zero_le _⟩
end Go.Proofs.YtljkfjjchkehaaaGreatDoor.EN
namespace Go.Proofs.YtljkfjjchkehaaaGreatDoor.EN
open Go.ChangeShapes Go.WideShapes Go.ChangeAt Go.RowKit
theorem q1M (w:World) (b:Nat) (h:b<2^64):Calls Tryz.prog 44 #[.float .f64 b] w fun e w'=>e= .returned (.bool (decide (fex b<2047)))∧G w w':=by
 have e:decide (fex b<2047)=decide (FT.rung b<FT.infR):=by
  have:=q3W b
  exact decide_eq_decide.2 this
 rw[e]
 exact q8Q b w h
theorem q1X (w:World) (t:TypeId):Rec (w.alloc (.cells #[.bool false,.slice none 0 0,.bool false,.slice none 0 0] t)) w.heap.size [.bool false,.slice none 0 0,.bool false,.slice none 0 0]:=Rec.new w [.bool false,.slice none 0 0,.bool false,.slice none 0 0] t
theorem qas (x y:Rat):((x.num*y.den:Int):Rat)/((x.den*y.num:Int):Rat)=x/y:=by
 have h1:x=Rat.divInt x.num x.den:=(Rat.num_divInt_den x).symm
 have h2:y=Rat.divInt y.num y.den:=(Rat.num_divInt_den y).symm
 have h3:x/y=Rat.divInt x.num x.den*(Rat.divInt y.num y.den)⁻¹ :=by rw[← h1,← h2,Rat.div_def]
 rw[h3,Rat.inv_divInt,Rat.divInt_mul_divInt,Rat.divInt_eq_div]
/-- The reference's quotient of two ratios, to a new one. -/
theorem qca (w:World) (bz bx b2:Nat) (x y:Rat) (K:Nat) (hK:K≤40000) (qx:QB x K) (qy:QB y K) (h0:y≠0)
  (_:bz<w.heap.size) (hbx:bx<w.heap.size) (hby:b2<w.heap.size) (hz:Rec w bz [.bool false,.slice none 0 0,.bool false,.slice none 0 0]) (hx:RIs w bx x) (hy:RIs w b2 y):
  Calls Tryz.prog 33 #[.pointer (some ⟨bz,0,none⟩),.pointer (some ⟨bx,0,none⟩),.pointer (some ⟨b2,0,none⟩)] w (SetRat w bz (x/y)):=by
 have hn:y.num≠0:=fun h=>h0 (Rat.num_eq_zero.1 h)
 have hq:=qbg w bz bx b2 x.num y.num x.den y.den (2*K) (by omega) (qb32 qx).1 (qb32 qy).1 (qb32 qx).2 (qb32 qy).2 x.den_pos y.den_pos hn hbx hby hz hx hy
 rw[qas] at hq
 refine Calls.mono (P:=Tryz.prog) hq ?_
 rintro e w' ⟨k1,k2,k3⟩
 exact⟨k1,k2,k3⟩
theorem q9h (w:World) (bx b2:Nat) (x y:Rat) (qx:QB x 80) (qy:QB y 80) (hbx:bx<w.heap.size) (hby:b2<w.heap.size) (hx:RIs w bx x) (hy:RIs w b2 y):
  Calls Tryz.prog 59 #[.pointer (some ⟨bx,0,none⟩),.pointer (some ⟨b2,0,none⟩)] w (q5T w (x+y)):=by
 have HS:Hid (∀ w1 p,G w w1→p<w1.heap.size→RatIs w1 p 0 0→_):=fun w1 p g hp hr=>q3t w1 p bx b2 0 0 x y 80 (by omega) qx qy hp (G.lt g hbx) (G.lt g hby) hr (hx.G hbx g) (hy.G hby g)
 generalize x+y=q at *
 clear qx qy hx hy
 go_enter Tryz.func59,Tryz.ntmps59
 go_wp2_with fail
 have hr0:=q0s w 40
 have hga:=(G.refl w).alloc (.cells #[.bool false,.slice none 0 0,.bool false,.slice none 0 0] 40)
 have hzs:w.heap.size<(w.alloc (.cells #[.bool false,.slice none 0 0,.bool false,.slice none 0 0] 40)).heap.size:=by simp
 have hz0:w.heap.size≤w.heap.size:=Nat.le_refl _
 generalize w.alloc (.cells #[.bool false,.slice none 0 0,.bool false,.slice none 0 0] 40)=w3 at *
 refine Calls.mono (P:=Tryz.prog) (HS.out w3 _ hga hzs hr0) ?_
 intro e w4 hs
 obtain⟨p,rfl,k1,k2,k3,k4⟩:=SetRat.ret hga hz0 hzs hs
 have CV:Hid (RIs w4 p q):=k4
 clear hs k4 HS
 go_wp2_with fail
 go_ret
 exact⟨p,rfl,k1,k2,k3,CV.out⟩
theorem q3Z (l:List Int) (k:Nat) (h:k<l.length):(l.take (k+1)).sum=(l.take k).sum+l.getD k 0:=by
 rw[List.take_add_one,List.sum_append,List.getD_eq_getElem?_getD,List.getElem?_eq_getElem h]
 simp
theorem qaz (w:World) (v:Value) (zs:List Int) (hT:Tab w) (h:NSl w v zs) (hn:zs.length≤2000) (hb:∀ k,QB (Uz (zs.take k).sum) 80) (hz:∀ k,QB (Uz (zs.getD k 0)) 80):
  Calls Tryz.prog 54 #[v] w (RetQ w (Uz zs.sum)):=by
 obtain⟨pa,ca,rfl,fK,hrow⟩:=h
 have HR:Hid _:=hrow
 have uL:Hid (Tab w):=hT
 have HB:Hid _:=hb
 have HZ:Hid _:=hz
 obtain⟨n,hn'⟩:∃ n,n=zs.length:=⟨_,rfl⟩
 rw[← hn'] at hn fK ⊢
 have HN:Hid (n=zs.length):=hn'
 clear hrow hT hn' fK hb hz
 go_enter Tryz.func54,Tryz.ntmps54
 go_wp2_with fail
 obtain⟨w0,aD,g0,hz0,R0,R1⟩:=q1B w [.bool false,.slice none 0 0,.slice none 0 0] [.bool false,.slice none 0 0,.slice none 0 0] 97 97
 rw[aD]
 clear aD
 go_loopw [8] (fun vk wr=>∃ (k:Nat) (t:Bool) (a:Option Addr) (i c:Nat) (a':Option Addr) (i' c':Nat),k≤n∧vk= .int .i64 k∧Rec wr (w.heap.size+1) [.bool t,.slice a i c,.slice a' i' c']∧QIs wr (.agg #[.bool t,.slice a i c,.slice a' i' c']) (Uz (zs.take k).sum)∧Rec wr w.heap.size [.bool false,.slice none 0 0,.slice none 0 0]∧G w wr) (fun vk _=>n-(intOf vk).toNat)
 case atStart=>exact⟨0,false,none,0,0,none,0,0,Nat.zero_le _,rfl,R1.out,by rw[List.take_zero,List.sum_nil,q2S];exact q2s _,R0.out,g0⟩
 case round=>
  obtain⟨k,t,a,i,c,a',i',c',hk,rfl,hsum,hq,hres,hG⟩:=hrel
  clear R0 R1 g0 hz0
  have HS:Hid (Rec _ _ _):=hsum
  have HQ:Hid (QIs _ _ _):=hq
  have GY:Hid (Rec _ _ _):=hres
  clear hsum hq hres
  by_cases hkn:k<n
  ·obtain⟨b1,o1,rfl,hB1,hq1⟩:=HR.out k (by rw[← HN.out];exact hkn)
   obtain⟨t1,p1,j1,d1,p2,j2,d2,hc1,hc2,hc3,hv⟩:=QAt.G hq1 hB1 hG
   have HV:Hid (QIs _ _ _):=hv
   have NP:Hid (b1<w.heap.size):=hB1
   have HG:Hid (G w wr):=hG
   have HA:Hid (∀ w1 v u,G w w1→QIs w1 v (Uz (zs.take k).sum)→QIs w1 u (Uz (zs.getD k 0))→Calls Tryz.prog 62 #[v,u] w1 (RetQ w1 (Uz (zs.take (k+1)).sum))):=fun w1 v u g h1 h2=>by
    have h:=q9L w1 v u _ _ 80 (by omega) (by omega) (uL.out.G g) h1 h2 (HB.out k) (HZ.out k)
    rw[q3N,← q3Z zs k (by rw[← HN.out];exact hkn)] at h
    exact h
   clear hv hq1
   have hlt1:=HS.out.lt
   have gp:=Rec.f3 (Rec.G HS.out (G.refl _))
   have rQ:=gp.1
   have rR:=gp.2.1
   have rT:=gp.2.2.1
   have rU:=gp.2.2.2.1
   have rW:=gp.2.2.2.2.1
   have rX:=gp.2.2.2.2.2
   clear gp
   go_wp2_with fail
   clear rQ rR rT rU rW rX
   obtain⟨w2,aD,g2,hz2,R0⟩:=q0l wr [.bool t1,.slice p1 j1 d1,.slice p2 j2 d2] 97
   rw[aD]
   clear aD
   refine Calls.mono (P:=Tryz.prog) (HA.out w2 _ _ (G.trans hG g2) (QIs.G HQ.out g2) (QIs.G HV.out g2)) ?_
   intro e1 w3 hs
   obtain⟨v,rfl,g3,hv⟩:=hs
   have uG:Hid (QIs w3 v (Uz (zs.take (k+1)).sum)):=hv
   obtain⟨a8,k8,c8,a9,k9,c9,rfl,-,-⟩:=hv
   generalize decide ((Uz (zs.take (k+1)).sum).num<0)=t9 at *
   have g23:=G.trans g2 g3
   have hlt3:=(Rec.G HS.out g23).lt
   have gp:=Rec.f3 (Rec.G HS.out (g23))
   have rQ:=gp.1
   have rR:=gp.2.1
   have rT:=gp.2.2.1
   have rU:=gp.2.2.2.1
   have rW:=gp.2.2.2.2.1
   have rX:=gp.2.2.2.2.2
   clear gp
   go_wp2_with fail
   go_roundw
   case rel=>exact⟨k+1,t9,a8,k8,c8,a9,k9,c9,by omega,by go_num,Rec.set3 (Rec.G HS.out g23),QIs.set3 uG.out (Rec.G HS.out g23) trivial trivial trivial,
    Rec.oth (Rec.oth (Rec.oth (Rec.G GY.out g23) (p:=⟨w.heap.size+1,0,none⟩) _ (by simp)) (p:=⟨w.heap.size+1,1,none⟩) _ (by simp)) (p:=⟨w.heap.size+1,2,none⟩) _ (by simp),Rec.g3 (b:=w.heap.size+1) (G.trans hG g23) (by omega)⟩
   case measure=>simp only[intOf];omega
  ·obtain rfl:k=n:=by omega
   have hsum:(zs.take k).sum=zs.sum:=by rw[List.take_of_length_le (by rw[HN.out];exact Nat.le_refl _)]
   have OP:Hid (QIs wr (.agg #[.bool t,.slice a i c,.slice a' i' c']) (Uz zs.sum)):=by rw[← hsum];exact HQ.out
   have mq:Hid (QIs _ _ _):=QIs.set3 (u1:= .bool t) (u2:= .slice a i c) (u3:= .slice a' i' c') OP.out GY.out trivial trivial trivial
   clear hsum HQ OP
   have gp:=Rec.f3 (Rec.G HS.out (G.refl _))
   have rQ:=gp.1
   have rR:=gp.2.1
   have rT:=gp.2.2.1
   have rU:=gp.2.2.2.1
   have rW:=gp.2.2.2.2.1
   have rX:=gp.2.2.2.2.2
   clear gp
   have mR:=Rec.f3 (Rec.G GY.out (G.refl _))
   have GZ:=mR.1
   have H7:=mR.2.1
   have H8:=mR.2.2.1
   have Ha:=mR.2.2.2.1
   have Hd:=mR.2.2.2.2.1
   have He:=mR.2.2.2.2.2
   clear mR
   go_wp2_with fail
   have hT:Hid (Rec (World.setCell (World.setCell (World.setCell wr ⟨w.heap.size,0,none⟩ (.bool t)) ⟨w.heap.size,1,none⟩ (.slice a i c)) ⟨w.heap.size,2,none⟩ (.slice a' i' c')) (w.heap.size) [.bool t,.slice a i c,.slice a' i' c']):=Rec.set3 (Rec.G GY.out (G.refl _))
   have g9:=Rec.g3 (b:=w.heap.size) (u:= .bool t) (v:= .slice a i c) (x:= .slice a' i' c') (hG) (by omega)
   generalize (World.setCell (World.setCell (World.setCell wr ⟨w.heap.size,0,none⟩ (.bool t)) ⟨w.heap.size,1,none⟩ (.slice a i c)) ⟨w.heap.size,2,none⟩ (.slice a' i' c'))=w9 at *
   have hF:=Rec.f3 (Rec.G hT.out ((G.refl _)))
   have bS:=hF.1
   have bU:=hF.2.1
   have bV:=hF.2.2.1
   have bW:=hF.2.2.2.1
   have il:=hF.2.2.2.2.1
   have iq:=hF.2.2.2.2.2
   clear hF
   refine bodyPost_ret (v:= .agg #[.bool t,.slice a i c,.slice a' i' c']) (by simp [results,Tryz.results54,go_sem, *]) rfl ?_
   exact⟨_,rfl,g9,mq.out⟩
def lenOf:Value→Nat
 | .slice _ n _=>n
 |_=>0
/-- A call hands back the floats of a list, or nothing. -/
def q63 (w:World) (L:List Nat) (o:Bool) (e:Ending) (w':World):Prop:=∃ v,e= .returned (.tuple #[v,.bool o])∧G w w'∧((o=true∧FSl w' v L)∨(o=false∧v= .slice none 0 0))
/-- The same, the list in a block of its own. -/
def RetFrontO (w:World) (L:List Nat) (o:Bool) (e:Ending) (w':World):Prop:=∃ v,e= .returned (.tuple #[v,.bool o])∧G w w'∧((o=true∧FOwn w' (w.heap.size+1) v L)∨(o=false∧v= .slice none 0 0))
theorem RetFrontO.fsl {w:World} {L:List Nat} {o:Bool} (e:Ending) (w':World) (h:RetFrontO w L o e w'):q63 w L o e w':=by
 obtain⟨v,h1,h2,h3⟩:=h
 refine⟨v,h1,h2,?_⟩
 rcases h3 with ⟨h3,h4⟩|h3
 ·exact Or.inl ⟨h3,h4.fsl⟩
 ·exact Or.inr h3
theorem q5Y {m:Nat} {x:Rat} {L:List Nat} {o:Bool} (h:Fr m x L o):L.length≤m:=by
 induction h with
 |zero=>simp
 |most=>simp
 |bad=>simp
 |step k v l o h0 hq h1 h2 h ih=>simpa using ih
set_option maxRecDepth 10000 in
theorem q7U (w:World) (v:Value) (x:Rat) (m:Nat) (L:List Nat) (o:Bool) (hT:Tab w) (hL:L.length≤100000) (h:QIs w v x) (hF:Fr m x L o):
  Calls Tryz.prog 95 #[v,.int .i64 (m:Int)] w (RetFrontO w L o):=by
 have GL:Hid (QIs w v x):=h
 obtain⟨a,k,c,a',k',c',rfl,-,-⟩:=h
 generalize decide (x.num<0)=t at *
 have uL:Hid (Tab w):=hT
 have HF:Hid _:=hF
 clear hT hF
 go_enter Tryz.func95,Tryz.ntmps95
 go_wp2_with fail
 obtain⟨w0,aD,g0,hz0,R0⟩:=q0l w [.bool t,.slice a k c,.slice a' k' c'] 97
 rw[aD]
 clear aD
 go_loopw [4] (fun vl wr=>∃ (pre rest:List Nat) (j:Nat) (y:Rat) (t:Bool) (a:Option Addr) (k c:Nat) (a':Option Addr) (k' c':Nat),L=pre++rest∧Fr j y rest o∧j+pre.length=m∧FOwn wr (w.heap.size+1) vl pre∧
   Rec wr w.heap.size [.bool t,.slice a k c,.slice a' k' c']∧QIs wr (.agg #[.bool t,.slice a k c,.slice a' k' c']) y∧G w wr∧w.heap.size+1≤wr.heap.size) (fun vl _=>L.length+1-lenOf vl)
 case atStart=>exact⟨[],L,m,x,t,a,k,c,a',k',c',rfl,HF.out,rfl,q1N _ _,R0.out,QIs.G GL.out g0,g0,by omega⟩
 case round=>
  obtain⟨pre,rest,j,y,t,a,k,c,a',k',c',MH,hfr,hj,hown,hrec,hq,hG,hsz⟩:=hrel
  clear R0 g0 hz0 GL
  obtain⟨pl,cl,rfl⟩:=hown.len
  have HO:Hid (FOwn _ _ _ _):=hown
  have l6:Hid (Rec _ _ _):=hrec
  have HQ:Hid (QIs _ _ _):=hq
  have kE:Hid (∀ w1,G wr w1→Calls Tryz.prog 81 #[.agg #[.bool t,.slice a k c,.slice a' k' c']] w1 fun e w'=>e= .returned (.int .i64 y.num.sign)∧G w1 w'):=fun w1 g=>q3r w1 _ y (QIs.G HQ.out g)
  have Hf:Hid (L=pre++rest):=MH
  have hpl:pre.length≤L.length:=by rw[MH];simp
  clear hown hrec hq MH
  by_cases hy:y=0
  ·have ho:rest=[]∧o=true:=by
    cases hfr with
    |zero=>exact⟨rfl,rfl⟩
    |most=>exact⟨rfl,rfl⟩
    |bad _ _ h0=>exact absurd hy h0
    |step _ _ _ _ h0=>exact absurd hy h0
   obtain⟨rfl,rfl⟩:=ho
   subst hy
   rw[show (0:Rat).num.sign=0 from rfl] at kE
   clear hfr hj
   have aG:=Rec.f3 (Rec.G l6.out (G.refl _))
   have cO:=aG.1
   have cZ:=aG.2.1
   have df:=aG.2.2.1
   have dh:=aG.2.2.2.1
   have dK:=aG.2.2.2.2.1
   have dL:=aG.2.2.2.2.2
   clear aG
   go_wp2_with fail
   refine Calls.mono (P:=Tryz.prog) (kE.out wr (G.refl _)) ?_
   rintro e1 w1 ⟨rfl,g1⟩
   go_wp2_with fail
   refine bodyPost_ret (v:= .tuple #[.slice pl pre.length cl,.bool true]) (by simp [results,Tryz.results95,go_sem, *]) rfl ?_
   refine⟨_,rfl,G.trans hG g1,Or.inl ⟨rfl,?_⟩⟩
   have h2:=FOwn.G HO.out g1
   rw[Hf.out,List.append_nil]
   exact h2
  ·have hs:(y.num.sign != 0)=true:=by
    rw[bne,q18]
    simpa using hy
   generalize y.num.sign=s at *
   by_cases hjm:j=0
   ·have ho:rest=[]∧o=true:=by
     subst hjm
     cases hfr with
     |zero=>exact⟨rfl,rfl⟩
     |most=>exact⟨rfl,rfl⟩
    obtain⟨rfl,rfl⟩:=ho
    have hlim:decide (pre.length<m)=false:=by simp;omega
    clear hfr hj hjm
    have aG:=Rec.f3 (Rec.G l6.out (G.refl _))
    have cO:=aG.1
    have cZ:=aG.2.1
    have df:=aG.2.2.1
    have dh:=aG.2.2.2.1
    have dK:=aG.2.2.2.2.1
    have dL:=aG.2.2.2.2.2
    clear aG
    go_wp2_with fail
    refine Calls.mono (P:=Tryz.prog) (kE.out wr (G.refl _)) ?_
    rintro e1 w1 ⟨rfl,g1⟩
    go_wp2_with fail
    refine bodyPost_ret (v:= .tuple #[.slice pl pre.length cl,.bool true]) (by simp [results,Tryz.results95,go_sem, *]) rfl ?_
    refine⟨_,rfl,G.trans hG g1,Or.inl ⟨rfl,?_⟩⟩
    have h2:=FOwn.G HO.out g1
    rw[Hf.out,List.append_nil]
    exact h2
   ·have hlim:decide (pre.length<m)=true:=by simp;omega
    have zg:QB y 80:=by
     cases hfr with
     |zero=>exact absurd rfl hy
     |most=>exact absurd rfl hjm
     |bad _ _ _ hq=>exact hq
     |step _ _ _ _ _ hq=>exact hq
    have Hg:Hid (∀ w1,G wr w1→Calls Tryz.prog 140 #[.agg #[.bool t,.slice a k c,.slice a' k' c'],.int .i64 1] w1 fun r w'=>r= .returned (.tuple #[.float .f64 (nR y),.int .i64 0])∧G w1 w'):=fun w1 g=>qaV w1 _ y 1 80 (by omega) (by omega) (Or.inl rfl) (QIs.G HQ.out g) hy zg
    have hlt:nR y<2^64:=FT.wrd_lt _ _ (by have:=q95 hy;omega)
    by_cases kK:fex (nR y)=2047
    ·have ho:rest=[]∧o=false:=by
      cases hfr with
      |zero=>exact absurd rfl hy
      |most=>exact absurd rfl hjm
      |bad=>exact⟨rfl,rfl⟩
      |step _ _ _ _ _ _ h1=>omega
     obtain⟨rfl,rfl⟩:=ho
     have xB:Hid (∀ w1,G wr w1→_):=fun w1 (_:G wr w1)=>q5Z w1 _ hlt kK
     generalize nR y=b at *
     clear hfr hj hjm zg hlt kK hy
     have aG:=Rec.f3 (Rec.G l6.out (G.refl _))
     have cO:=aG.1
     have cZ:=aG.2.1
     have df:=aG.2.2.1
     have dh:=aG.2.2.2.1
     have dK:=aG.2.2.2.2.1
     have dL:=aG.2.2.2.2.2
     clear aG
     go_wp2_with fail
     refine Calls.mono (P:=Tryz.prog) (kE.out wr (G.refl _)) ?_
     rintro e1 w1 ⟨rfl,g1⟩
     clear cO cZ df dh dK dL
     have aG:=Rec.f3 (Rec.G l6.out (g1))
     have cO:=aG.1
     have cZ:=aG.2.1
     have df:=aG.2.2.1
     have dh:=aG.2.2.2.1
     have dK:=aG.2.2.2.2.1
     have dL:=aG.2.2.2.2.2
     clear aG
     go_wp2_with fail
     refine Calls.mono (P:=Tryz.prog) (Hg.out w1 g1) ?_
     rintro e1 w2 ⟨rfl,g2⟩
     clear cO cZ df dh dK dL
     go_wp2_with fail
     refine Calls.mono (P:=Tryz.prog) (xB.out w2 (G.trans g1 g2)) ?_
     intro e1 w3 hs3
     obtain⟨u,rfl,g3,hu⟩:=hs3
     have HU:Hid (QIs w3 u _):=hu
     obtain⟨a8,k8,c8,a9,k9,c9,rfl,-,-⟩:=hu
     generalize decide ((0:Rat).num<0)=t9 at *
     go_wp2_with fail
     refine bodyPost_ret (v:= .tuple #[.slice none 0 0,.bool false]) (by simp [results,Tryz.results95,go_sem, *]) rfl ?_
     exact⟨_,rfl,(G.trans hG (G.trans g1 (G.trans g2 g3))).alloc _,Or.inr ⟨rfl,rfl⟩⟩
    ·have hfin:fex (nR y)<2047:=by
      have:fex (nR y)<2048:=Nat.mod_lt _ (by omega)
      omega
     by_cases hz0:FQ (nR y)=0
     ·have ho:rest=[]∧o=false:=by
       cases hfr with
       |zero=>exact absurd rfl hy
       |most=>exact absurd rfl hjm
       |bad=>exact⟨rfl,rfl⟩
       |step _ _ _ _ _ _ _ h2=>exact absurd hz0 h2
      obtain⟨rfl,rfl⟩:=ho
      have xB:Hid (∀ w1,G wr w1→Calls Tryz.prog 94 #[.float .f64 (nR y)] w1 (q15 w1 0 0)):=fun w1 g=>by
       have h:=of_c w1 _ (uL.out.G (G.trans hG g)) hlt hfin
       rw[hz0] at h
       exact h
      generalize nR y=b at *
      clear hfr hj hjm zg hlt kK hfin hz0 hy
      have aG:=Rec.f3 (Rec.G l6.out (G.refl _))
      have cO:=aG.1
      have cZ:=aG.2.1
      have df:=aG.2.2.1
      have dh:=aG.2.2.2.1
      have dK:=aG.2.2.2.2.1
      have dL:=aG.2.2.2.2.2
      clear aG
      go_wp2_with fail
      refine Calls.mono (P:=Tryz.prog) (kE.out wr (G.refl _)) ?_
      rintro e1 w1 ⟨rfl,g1⟩
      clear cO cZ df dh dK dL
      have aG:=Rec.f3 (Rec.G l6.out (g1))
      have cO:=aG.1
      have cZ:=aG.2.1
      have df:=aG.2.2.1
      have dh:=aG.2.2.2.1
      have dK:=aG.2.2.2.2.1
      have dL:=aG.2.2.2.2.2
      clear aG
      go_wp2_with fail
      refine Calls.mono (P:=Tryz.prog) (Hg.out w1 g1) ?_
      rintro e1 w2 ⟨rfl,g2⟩
      clear cO cZ df dh dK dL
      go_wp2_with fail
      refine Calls.mono (P:=Tryz.prog) (xB.out w2 (G.trans g1 g2)) ?_
      intro e1 w3 hs3
      obtain⟨u,rfl,g3,hu⟩:=hs3
      have HU:Hid (QIs w3 u _):=hu
      obtain⟨a8,k8,c8,a9,k9,c9,rfl,-,-⟩:=hu
      have wT:Hid (∀ w1,G w3 w1→_):=fun w1 g=>q3r w1 _ 0 (QIs.G HU.out g)
      rw[show (0:Rat).num.sign=0 from rfl] at wT
      generalize decide ((0:Rat).num<0)=t9 at *
      go_wp2_with fail
      obtain⟨w4,aD,g4,qo,R0⟩:=q0l w3 [.bool t9,.slice a8 k8 c8,.slice a9 k9 c9] 97
      rw[aD]
      clear aD
      refine Calls.mono (P:=Tryz.prog) (wT.out w4 g4) ?_
      rintro e1 w5 ⟨rfl,g5⟩
      go_wp2_with fail
      refine bodyPost_ret (v:= .tuple #[.slice none 0 0,.bool false]) (by simp [results,Tryz.results95,go_sem, *]) rfl ?_
      exact⟨_,rfl,G.trans hG (G.trans g1 (G.trans g2 (G.trans g3 (G.trans g4 g5)))),Or.inr ⟨rfl,rfl⟩⟩
     ·obtain⟨j',rest',hj',hre,FJ⟩:∃ j' rest',j=j'+1∧rest=nR y::rest'∧Fr j' (y-FQ (nR y)) rest' o:=by
       cases hfr with
       |zero=>exact absurd rfl hy
       |most=>exact absurd rfl hjm
       |bad _ _ _ _ h=>rcases h with h|h;omega;exact absurd h hz0
       |step k _ l _ _ _ _ _ h=>exact⟨k,l,rfl,rfl,h⟩
      have xB:Hid (∀ w1,G wr w1→Calls Tryz.prog 94 #[.float .f64 (nR y)] w1 (q15 w1 (FQ (nR y)) 0)):=fun w1 g=>of_c w1 _ (uL.out.G (G.trans hG g)) hlt hfin
      have HSub:Hid (∀ w1 v u,G w w1→QIs w1 v y→QIs w1 u (FQ (nR y))→Calls Tryz.prog 63 #[v,u] w1 (RetQ w1 (y-FQ (nR y)))):=fun w1 v u g h1 h2=>q9W w1 v u _ _ 80 (by omega) (by omega) (uL.out.G g) h1 h2 zg (qci hfin)
      have hs2:((FQ (nR y)).num.sign==0)=false:=by
       rw[q18]
       exact decide_eq_false hz0
      have xA:Hid _:=FJ
      have OT:Hid (rest=nR y::rest'):=hre
      have HJ:Hid (j=j'+1):=hj'
      have Sk:Hid (j+pre.length=m):=hj
      generalize y-FQ (nR y)=y2 at *
      generalize FQ (nR y)=xb at *
      generalize nR y=b at *
      clear hfr hj hjm zg hlt kK hfin hz0 hy FJ hre hj'
      have aG:=Rec.f3 (Rec.G l6.out (G.refl _))
      have cO:=aG.1
      have cZ:=aG.2.1
      have df:=aG.2.2.1
      have dh:=aG.2.2.2.1
      have dK:=aG.2.2.2.2.1
      have dL:=aG.2.2.2.2.2
      clear aG
      go_wp2_with fail
      refine Calls.mono (P:=Tryz.prog) (kE.out wr (G.refl _)) ?_
      rintro e1 w1 ⟨rfl,g1⟩
      clear cO cZ df dh dK dL
      have aG:=Rec.f3 (Rec.G l6.out (g1))
      have cO:=aG.1
      have cZ:=aG.2.1
      have df:=aG.2.2.1
      have dh:=aG.2.2.2.1
      have dK:=aG.2.2.2.2.1
      have dL:=aG.2.2.2.2.2
      clear aG
      go_wp2_with fail
      refine Calls.mono (P:=Tryz.prog) (Hg.out w1 g1) ?_
      rintro e1 w2 ⟨rfl,g2⟩
      clear cO cZ df dh dK dL
      go_wp2_with fail
      refine Calls.mono (P:=Tryz.prog) (xB.out w2 (G.trans g1 g2)) ?_
      intro e1 w3 hs3
      obtain⟨u,rfl,g3,hu⟩:=hs3
      have HU:Hid (QIs w3 u _):=hu
      obtain⟨a8,k8,c8,a9,k9,c9,rfl,-,-⟩:=hu
      have wT:Hid (∀ w1,G w3 w1→_):=fun w1 g=>q3r w1 _ xb (QIs.G HU.out g)
      generalize decide (xb.num<0)=t9 at *
      generalize xb.num.sign=s2 at *
      go_wp2_with fail
      obtain⟨w4,aD,g4,qo,R0⟩:=q0l w3 [.bool t9,.slice a8 k8 c8,.slice a9 k9 c9] 97
      rw[aD]
      clear aD
      refine Calls.mono (P:=Tryz.prog) (wT.out w4 g4) ?_
      rintro e1 w5 ⟨rfl,g5⟩
      have OU:=G.trans g1 (G.trans g2 g3)
      have OV:=G.trans OU (G.trans g4 g5)
      have wU:G wr (w5.alloc (.cells #[.float .f64 b] 26)):=OV.alloc _
      have hsz5:=wU.size
      have FK:=OU.size
      obtain⟨v',w6,hrun,hown6,honto⟩:=q8o _ (w.heap.size+1) (.slice pl pre.length cl) pre [b] (FOwn.G HO.out wU) (by omega) ⟨w5.heap.size,0,none⟩ 1 1 rfl (by
       intro i hi
       obtain rfl:i=0:=by simpa using hi
       simp [Addr.add,go_sem]) (by simp only[List.length_cons,List.length_nil];omega) (by simp)
      have CR:Hid (Rec w6 w.heap.size _):=honto.r _ _ (Rec.G l6.out wU) (FOwn.own HO.out (Or.inl (by omega)))
      have ni:Hid (Rec w6 w3.heap.size _):=honto.r _ _ (Rec.G R0.out (g5.alloc (.cells #[.float .f64 b] 26))) (FOwn.own HO.out (Or.inr FK))
      have wI:Hid (QIs w6 _ y):=honto.q _ _ (QIs.G HQ.out wU)
      have Sm:Hid (QIs w6 _ xb):=honto.q _ _ (QIs.G HU.out (G.alloc (G.trans g4 g5) (.cells #[.float .f64 b] 26)))
      have g6:G w w6:=honto.g w (by omega) (G.trans hG wU)
      obtain⟨Sn,cl',rfl⟩:=hown6.len
      have Sq:Hid (FOwn _ _ _ _):=hown6
      clear hown6 honto OV hsz5 FK HO kE Hg xB wT uL hs hlim
      have Sr:=CR.out.lt
      have Su:=ni.out.lt
      have gq:=Rec.f3 (Rec.G CR.out (G.refl _))
      have sU:=gq.1
      have sV:=gq.2.1
      have sW:=gq.2.2.1
      have sZ:=gq.2.2.2.1
      have tq:=gq.2.2.2.2.1
      have tu:=gq.2.2.2.2.2
      clear gq
      have mU:=Rec.f3 (Rec.G ni.out (G.refl _))
      have yK:=mU.1
      have yL:=mU.2.1
      have yM:=mU.2.2.1
      have yN:=mU.2.2.2.1
      have yO:=mU.2.2.2.2.1
      have yP:=mU.2.2.2.2.2
      clear mU
      go_wp2_with (at_builtin;refine q20 _ rfl (.tmp 36) (.tmp 38) 22 rfl _ _ rfl rfl hrun ?_)
      clear sU sV sW sZ tq tu yK yL yM yN yO yP hrun
      refine Calls.mono (P:=Tryz.prog) (HSub.out w6 _ _ g6 wI.out Sm.out) ?_
      intro e1 w7 hs7
      obtain⟨u,rfl,g7,OW⟩:=hs7
      have Sv:Hid (QIs w7 u y2):=OW
      obtain⟨d8,i8,e8,d9,i9,e9,rfl,-,-⟩:=OW
      generalize decide (y2.num<0)=t7 at *
      have OX:Hid (FOwn _ _ _ _):=FOwn.G Sq.out g7
      have Sw:=(Rec.G CR.out g7).lt
      have gq:=Rec.f3 (Rec.G CR.out (g7))
      have sU:=gq.1
      have sV:=gq.2.1
      have sW:=gq.2.2.1
      have sZ:=gq.2.2.2.1
      have tq:=gq.2.2.2.2.1
      have tu:=gq.2.2.2.2.2
      clear gq
      go_wp2_with fail
      have hoth:∀ k2,k2≠w.heap.size→(((w7.setCell ⟨w.heap.size,0,none⟩ (.bool t7)).setCell ⟨w.heap.size,1,none⟩ (.slice d8 i8 e8)).setCell ⟨w.heap.size,2,none⟩ (.slice d9 i9 e9)).heap[k2]? =w7.heap[k2]? :=fun k2 hk2=>(q2p (by simpa using hk2)).trans ((q2p (by simpa using hk2)).trans (q2p (by simpa using hk2)))
      have OY:FOwn _ (w.heap.size+1) (.slice Sn (pre++[b]).length cl') (pre++[b]):=FOwn.oth OX.out (FOwn.own OX.out (Or.inl (by omega))) hoth
      rw[show (pre++[b]).length=pre.length+1 from by simp] at OY
      have hll:pre.length+1≤L.length:=by rw[Hf.out,OT.out];simp
      clear hoth
      go_roundw
      case rel=>exact⟨pre++[b],rest',j',y2,t7,d8,i8,e8,d9,i9,e9,by rw[Hf.out,OT.out];simp,xA.out,by have:=HJ.out;have:=Sk.out;simp;omega,OY,Rec.set3 (Rec.G CR.out g7),QIs.set3 Sv.out (Rec.G CR.out g7) trivial trivial trivial,Rec.g3 (b:=w.heap.size) (G.trans g6 g7) (by omega),by simp [World.setCell];omega⟩
      case measure=>simp only[lenOf];omega
theorem q5i (w:World) (v:Value) (x:Rat) (m:Nat) (L:List Nat) (o:Bool) (hT:Tab w) (hL:L.length≤100000) (h:QIs w v x) (hF:Fr m x L o):
  Calls Tryz.prog 95 #[v,.int .i64 (m:Int)] w (q63 w L o):=
 (q7U w v x m L o hT hL h hF).mono RetFrontO.fsl
/-- A call hands back a list and a fault: the list of what Fr tells, or a fault and no list. -/
def qaF (w:World) (L:List Nat) (o:Bool) (e:Ending) (w':World):Prop:=∃ (v:Value) (c:Int),e= .returned (.tuple #[v,.agg #[.int .i64 c,.int .i64 0]])∧G w w'∧((o=true∧c=0∧FSl w' v L)∨(o=false∧c=3∧v= .slice none 0 0))
theorem q9B (w:World) (v:Value) (x:Rat) (L:List Nat) (o:Bool) (hT:Tab w) (hL:L.length≤100000) (h:QIs w v x) (hF:Fr 9223372036854775807 x L o):
  Calls Tryz.prog 53 #[v] w (qaF w L o):=by
 have xA:Hid (∀ w1,G w w1→_):=fun w1 g=>q5i w1 v x 9223372036854775807 L o (hT.G g) hL (h.G g) hF
 obtain⟨a,k,c,a',k',c',rfl,-,-⟩:=h
 generalize decide (x.num<0)=t at *
 clear hF hT
 go_enter Tryz.func53,Tryz.ntmps53
 go_wp2_with fail
 obtain⟨w0,aD,g0,hz0,R0,R1⟩:=q1B w [.bool t,.slice a k c,.slice a' k' c'] [.int .i64 0,.int .i64 0] 97 29
 rw[aD]
 clear aD
 refine Calls.mono (P:=Tryz.prog) (xA.out w0 g0) ?_
 intro e1 w1 hs
 obtain⟨v,rfl,g1,hv⟩:=hs
 have cB:=G.trans g0 g1
 have RF:Hid (Rec w1 (w.heap.size+1) [.int .i64 0,.int .i64 0]):=Rec.G R1.out g1
 clear R0 R1 hz0 xA g0 g1
 rcases hv with ⟨rfl,hv⟩|⟨rfl,rfl⟩
 ·have HV:Hid (FSl _ _ _):=hv
  obtain⟨pl,cl,rfl,-,-⟩:=hv
  have ME:Hid (FSl _ _ _):=FSl.flt (x':=0) (y':=0) HV.out RF.out
  have fZ:=Rec.f2 (Rec.G RF.out (G.refl _))
  have pF:=fZ.1
  have pG:=fZ.2.1
  have pI:=fZ.2.2.1
  have pJ:=fZ.2.2.2
  clear fZ
  go_wp2_with fail
  have hT:Hid (Rec (World.setCell (World.setCell w1 ⟨w.heap.size+1,0,none⟩ (.int .i64 0)) ⟨w.heap.size+1,1,none⟩ (.int .i64 0)) (w.heap.size+1) [.int .i64 0,.int .i64 0]):=Rec.set2 (Rec.G RF.out (G.refl _))
  have g9:=Rec.g2 (b:=w.heap.size+1) (u:= .int .i64 0) (v:= .int .i64 0) (cB) (by omega)
  generalize (World.setCell (World.setCell w1 ⟨w.heap.size+1,0,none⟩ (.int .i64 0)) ⟨w.heap.size+1,1,none⟩ (.int .i64 0))=w9 at *
  have hF:=Rec.f2 (Rec.G hT.out ((G.refl _)))
  have bS:=hF.1
  have bU:=hF.2.1
  have bV:=hF.2.2.1
  have bW:=hF.2.2.2
  clear hF
  refine bodyPost_ret (v:= .tuple #[.slice pl L.length cl,.agg #[.int .i64 0,.int .i64 0]]) (by simp [results,Tryz.results53,go_sem, *]) rfl ?_
  exact⟨_,_,rfl,g9,Or.inl ⟨rfl,rfl,ME.out⟩⟩
 ·skip
  have fZ:=Rec.f2 (Rec.G RF.out (G.refl _))
  have pF:=fZ.1
  have pG:=fZ.2.1
  have pI:=fZ.2.2.1
  have pJ:=fZ.2.2.2
  clear fZ
  go_wp2_with fail
  have hT:Hid (Rec (World.setCell (World.setCell w1 ⟨w.heap.size+1,0,none⟩ (.int .i64 3)) ⟨w.heap.size+1,1,none⟩ (.int .i64 0)) (w.heap.size+1) [.int .i64 3,.int .i64 0]):=Rec.set2 (Rec.G RF.out (G.refl _))
  have g9:=Rec.g2 (b:=w.heap.size+1) (u:= .int .i64 3) (v:= .int .i64 0) (cB) (by omega)
  generalize (World.setCell (World.setCell w1 ⟨w.heap.size+1,0,none⟩ (.int .i64 3)) ⟨w.heap.size+1,1,none⟩ (.int .i64 0))=w9 at *
  have hF:=Rec.f2 (Rec.G hT.out ((G.refl _)))
  have bS:=hF.1
  have bU:=hF.2.1
  have bV:=hF.2.2.1
  have bW:=hF.2.2.2
  clear hF
  refine bodyPost_ret (v:= .tuple #[.slice none 0 0,.agg #[.int .i64 3,.int .i64 0]]) (by simp [results,Tryz.results53,go_sem, *]) rfl ?_
  exact⟨_,_,rfl,g9,Or.inr ⟨rfl,rfl,rfl⟩⟩
/-- Bounds of sums of lists that aren't long. -/
theorem q7r {l:List Nat} (h:l.length≤2000) (k:Nat):QB (Uz ((l.map fz).take k).sum) 80:=by
 refine q9v ?_
 have h1:=q4o (l:=l.take k) (by rw[List.length_take];omega) (k:=41) rfl
 rw[← List.map_take]
 refine Nat.lt_of_lt_of_le h1 ?_
 obtain⟨M,hM⟩:∃ M:Nat,M=5000:=⟨_,rfl⟩
 obtain⟨K,hK⟩:∃ K:Nat,K=41:=⟨_,rfl⟩
 rw[← hM,← hK]
 exact Nat.pow_le_pow_right (by omega) (by omega)
theorem qa9 (l:List Nat) (k:Nat):QB (Uz ((l.map fz).getD k 0)) 80:=by
 refine q9v ?_
 obtain⟨M,hM⟩:∃ M:Nat,M=5000:=⟨_,rfl⟩
 rw[← hM]
 by_cases h:k<l.length
 ·rw[getD_map h]
  have h2:=q6E (l.getD k 0)
  obtain⟨N,hN⟩:∃ N:Nat,N=2099:=⟨_,rfl⟩
  rw[← hN] at h2
  exact Nat.lt_of_lt_of_le h2 (Nat.pow_le_pow_right (by omega) (by omega))
 ·have:(l.map fz).getD k 0=0:=by
   rw[List.getD_eq_getElem?_getD,List.getElem?_eq_none (by rw[List.length_map];omega)]
   rfl
  rw[this]
  exact Nat.two_pow_pos _
/-- The sum of what was read. -/
theorem q4p (w:World) (v:Value) (l:List Nat) (hT:Tab w) (h:NSl w v (l.map fz)) (hn:l.length≤2000):
  Calls Tryz.prog 54 #[v] w (RetQ w (Uz (l.map fz).sum)):=
 qaz w v (l.map fz) hT h (by rw[List.length_map];exact hn) (q7r hn) (qa9 l)
/-- A call hands back a list of the sum, or what is at fault. -/
def qcF (w:World) (l L:List Nat) (o:Bool) (e:Ending) (w':World):Prop:=∃ (v:Value) (c a:Int),e= .returned (.tuple #[v,.agg #[.int .i64 c,.int .i64 a]])∧G w w'∧
 ((Fin l∧a=0∧((o=true∧c=0∧FSl w' v L)∨(o=false∧c=3∧v= .slice none 0 0)))∨(∃ i:Nat,c=4∧a=i∧v= .slice none 0 0∧i<l.length∧fex (l.getD i 0)=2047∧∀ j,j<i→fex (l.getD j 0)<2047))
theorem qcm (w:World) (v:Value) (l L:List Nat) (o:Bool) (hT:Tab w) (h:FSl w v l) (hl:∀ b∈l,b<2^64) (hn:l.length≤2000) (hL:L.length≤100000) (hF:Fin l→Fr 9223372036854775807 (Uz (l.map fz).sum) L o):
  Calls Tryz.prog 16 #[v] w (qcF w l L o):=by
 have HR:Hid (∀ w1,G w w1→_):=fun w1 g=>q6k w1 v l (hT.G g) (h.G g) hl hn
 have uL:Hid (Tab w):=hT
 have HF:Hid _:=hF
 obtain⟨pa,ca,rfl,-,-⟩:=h
 clear hF hT hl
 go_enter Tryz.func16,Tryz.ntmps16
 go_wp2_with fail
 obtain⟨w0,aD,g0,hz0,R0⟩:=q0l w [.int .i64 0,.int .i64 0] 29
 rw[aD]
 clear aD
 refine Calls.mono (P:=Tryz.prog) (HR.out w0 g0) ?_
 intro e1 w1 hs
 obtain⟨v,c,a,rfl,g1,hv⟩:=hs
 have RF:Hid (Rec w1 w.heap.size [.int .i64 0,.int .i64 0]):=Rec.G R0.out g1
 have cB:=G.trans g0 g1
 clear R0 HR hz0 g0 g1
 rcases hv with ⟨rfl,rfl,hfin,hv⟩|⟨i,rfl,rfl,rfl,hi⟩
 ·have hF:=HF.out hfin
  have HT2:Hid (∀ w2,G w1 w2→_):=fun w2 g=>q4p w2 v l (uL.out.G (G.trans cB g)) (hv.G g) hn
  obtain⟨pb,cb,rfl,-,-⟩:=hv
  have hlm:(l.map fz).length=l.length:=List.length_map _
  rw[hlm] at HT2 ⊢
  have HFin:Hid (Fin l):=hfin
  have HW:Hid (∀ w3 v,G w w3→QIs w3 v (Uz (l.map fz).sum)→_):=fun w3 v g hv=>q9B w3 v _ L o (uL.out.G g) hL hv hF
  generalize (l.map fz).sum=z at *
  clear HF hF hfin hlm uL
  have fZ:=Rec.f2 (Rec.G RF.out (G.refl _))
  have pF:=fZ.1
  have pG:=fZ.2.1
  have pI:=fZ.2.2.1
  have pJ:=fZ.2.2.2
  clear fZ
  have hlt:=RF.out.lt
  go_wp2_with fail
  clear pF pG pI pJ
  obtain⟨w2,aD,g2,hz2,R0⟩:=q0l w1 [.int .i64 0,.int .i64 0] 29
  rw[aD]
  clear aD
  refine Calls.mono (P:=Tryz.prog) (HT2.out w2 g2) ?_
  intro e1 w3 hs
  obtain⟨v,rfl,g3,hv⟩:=hs
  have HV:Hid (QIs w3 v (Uz z)):=hv
  have g13:=G.trans g2 g3
  clear HT2 R0 hz2 hv
  go_wp2_with fail
  refine Calls.mono (P:=Tryz.prog) (HW.out w3 v (G.trans cB g13) HV.out) ?_
  intro e1 w4 hs
  obtain⟨v,c,rfl,g4,hv⟩:=hs
  have g14:=G.trans g13 g4
  have MF:Hid (Rec w4 w.heap.size [.int .i64 0,.int .i64 0]):=Rec.G RF.out g14
  have ME:Hid ((o=true∧c=0∧FSl ((w4.setCell ⟨w.heap.size,0,none⟩ (.int .i64 c)).setCell ⟨w.heap.size,1,none⟩ (.int .i64 0)) v L)∨(o=false∧c=3∧v= .slice none 0 0)):=by
   rcases hv with ⟨h1,h2,h3⟩|h
   ·exact Or.inl ⟨h1,h2,h3.flt MF.out⟩
   ·exact Or.inr h
  clear HW HV RF hv
  have qp:=Rec.f2 (Rec.G MF.out (G.refl _))
  have GQ:=qp.1
  have GR:=qp.2.1
  have GU:=qp.2.2.1
  have GV:=qp.2.2.2
  clear qp
  go_wp2_with fail
  have hT:Hid (Rec (World.setCell (World.setCell w4 ⟨w.heap.size,0,none⟩ (.int .i64 c)) ⟨w.heap.size,1,none⟩ (.int .i64 0)) (w.heap.size) [.int .i64 c,.int .i64 0]):=Rec.set2 (Rec.G MF.out (G.refl _))
  have g9:=Rec.g2 (b:=w.heap.size) (u:= .int .i64 c) (v:= .int .i64 0) (G.trans cB g14) (by omega)
  generalize (World.setCell (World.setCell w4 ⟨w.heap.size,0,none⟩ (.int .i64 c)) ⟨w.heap.size,1,none⟩ (.int .i64 0))=w9 at *
  have hF:=Rec.f2 (Rec.G hT.out ((G.refl _)))
  have bS:=hF.1
  have bU:=hF.2.1
  have bV:=hF.2.2.1
  have bW:=hF.2.2.2
  clear hF
  refine bodyPost_ret (v:= .tuple #[v,.agg #[.int .i64 c,.int .i64 0]]) (by simp [results,Tryz.results16,go_sem, *]) rfl ?_
  exact⟨v,c,0,rfl,g9,Or.inl ⟨HFin.out,rfl,ME.out⟩⟩
 ·skip
  have fZ:=Rec.f2 (Rec.G RF.out (G.refl _))
  have pF:=fZ.1
  have pG:=fZ.2.1
  have pI:=fZ.2.2.1
  have pJ:=fZ.2.2.2
  clear fZ
  have hlt:=RF.out.lt
  go_wp2_with fail
  go_region
  go_wp2_with fail
  have hT:Hid (Rec (World.setCell (World.setCell w1 ⟨w.heap.size,0,none⟩ (.int .i64 4)) ⟨w.heap.size,1,none⟩ (.int .i64 (i:Int))) (w.heap.size) [.int .i64 4,.int .i64 (i:Int)]):=Rec.set2 (Rec.G RF.out (G.refl _))
  have g9:=Rec.g2 (b:=w.heap.size) (u:= .int .i64 4) (v:= .int .i64 (i:Int)) (cB) (by omega)
  generalize (World.setCell (World.setCell w1 ⟨w.heap.size,0,none⟩ (.int .i64 4)) ⟨w.heap.size,1,none⟩ (.int .i64 (i:Int)))=w9 at *
  have hF:=Rec.f2 (Rec.G hT.out ((G.refl _)))
  have bS:=hF.1
  have bU:=hF.2.1
  have bV:=hF.2.2.1
  have bW:=hF.2.2.2
  clear hF
  have pE:=Rec.lt hT.out
  refine bodyPost_ret (v:= .tuple #[.slice none 0 0,.agg #[.int .i64 4,.int .i64 (i:Int)]]) (by simp [results,Tryz.results16,go_sem, *]) rfl ?_
  exact⟨_,_,_,rfl,(g9.alloc _).drew,Or.inr ⟨i,rfl,rfl,rfl,hi⟩⟩
theorem q3D (b:Nat):QB (Uz (fz b)) 80:=by
 refine q9v ?_
 have h:=q6E b
 obtain⟨M,hM⟩:∃ M:Nat,M=5000:=⟨_,rfl⟩
 obtain⟨N,hN⟩:∃ N:Nat,N=2099:=⟨_,rfl⟩
 rw[← hM]
 rw[← hN] at h
 exact Nat.lt_of_lt_of_le h (Nat.pow_le_pow_right (by omega) (by omega))
end Go.Proofs.YtljkfjjchkehaaaGreatDoor.EN
namespace Go.Proofs.YtljkfjjchkehaaaGreatDoor.EN
open Go.RowKit
theorem qa1 {l:List Nat} (h:l.length≤2000):∃ L o,(∀ k,100≤k→Fr k (Uz (l.map fz).sum) L o)∧L.length≤41:=by
 obtain⟨J,hJ⟩:∃ J:Nat,J=41:=⟨_,rfl⟩
 obtain⟨L,o,hF,hL,-⟩:=q43 J (l.map fz).sum 45 (q4o (by omega) hJ) (by omega) (by omega)
 rw[hJ] at hL
 exact⟨L,o,fun k hk=>q85 hF k (by omega) (by omega),hL⟩
theorem q8E (x y:Int):Uz x*Uz y=Wz (2^1074) (x*y):=by
 unfold Uz Wz
 rw[Rat.mkRat_mul_mkRat]
set_option exponentiation.threshold 6000 in
theorem qak {l m:List Nat} (h:l.length≤2000) (hm:m.length≤2000):∃ L o,(∀ k,100≤k→Fr k (Uz (l.map fz).sum*Uz (m.map fz).sum) L o)∧L.length≤63∧QB (Uz (l.map fz).sum*Uz (m.map fz).sum) 80:=by
 obtain⟨I,hI⟩:∃ I:Nat,I=41:=⟨_,rfl⟩
 have h1:=q4o (l:=l) (by omega) hI
 have h2:=q4o (l:=m) (by omega) hI
 rw[q8E]
 have h3:((l.map fz).sum*(m.map fz).sum).natAbs<2^(52*I)*2^(52*I):=by
  rw[Int.natAbs_mul]
  exact Nat.mul_lt_mul'' h1 h2
 rw[← Nat.pow_add] at h3
 generalize (l.map fz).sum*(m.map fz).sum=z at *
 clear h1 h2
 obtain⟨J,hJ⟩:∃ J:Nat,J=63:=⟨_,rfl⟩
 obtain⟨E,hE⟩:∃ E:Nat,E=1074:=⟨_,rfl⟩
 obtain⟨F,hF⟩:∃ F:Nat,F=52*I+52*I:=⟨_,rfl⟩
 rw[← hE]
 rw[← hF] at h3
 have hU:0<2^E:=Nat.two_pow_pos _
 have hq:∀ z:Int,2*z.natAbs≤2^E*2^(51*J)→QB (Wz (2^E) z) 80:=by
  intro z hz
  rw[← Nat.pow_add] at hz
  refine q7R (z:=z) (d:=2^1074*2^E) (K:=80) (Nat.mul_pos q0w hU) rfl ?_ ?_
  ·obtain⟨M,hM⟩:∃ M:Nat,M=64*80:=⟨_,rfl⟩
   rw[← hM]
   have h5:2^(E+51*J)≤2^M:=Nat.pow_le_pow_right (by omega) (by omega)
   have h6:=Nat.two_pow_pos (E+51*J)
   omega
  ·rw[← Nat.pow_add]
   exact Nat.pow_lt_pow_right (by omega) (by omega)
 have hz:2*z.natAbs≤2^E*2^(51*J):=by
  rw[← Nat.pow_add]
  have h5:2^(F+1)≤2^(E+51*J):=Nat.pow_le_pow_right (by omega) (by omega)
  rw[Nat.pow_succ] at h5
  omega
 obtain⟨L,o,hF2,hL⟩:=qar hU J hq J z (Nat.le_refl _) hz
 exact⟨L,o,fun k hk=>q85 hF2 k (by omega) (by omega),by omega,hq z hz⟩
end Go.Proofs.YtljkfjjchkehaaaGreatDoor.EN
namespace Go.Proofs.YtljkfjjchkehaaaGreatDoor.EN
open Go.ChangeShapes Go.WideShapes Go.ChangeAt Go.RowKit
/-- A number's float in a mode. -/
def flW (m:Int) (q:Rat):Nat:=if q=0 then 0 else FT.wrd (decide (q.num<0)) (rdV m (decide (q.num<0)) q.num.natAbs q.den)
/-- A call hands back a sum's float, or what is at fault. -/
def q9H (w:World) (l:List Nat) (m:Int) (e:Ending) (w':World):Prop:=∃ (b:Nat) (c a:Int),e= .returned (.tuple #[.float .f64 b,.agg #[.int .i64 c,.int .i64 a]])∧G w w'∧
 ((Fin l∧b=flW m (Uz (l.map fz).sum)∧c=0∧a=0)∨(∃ i:Nat,b=0∧c=4∧a=i∧i<l.length∧fex (l.getD i 0)=2047∧∀ j,j<i→fex (l.getD j 0)<2047))
theorem q3g {l:List Nat} (h:Fin l) {i:Nat} (hi:i<l.length) (hf:fex (l.getD i 0)=2047):False:=by
 have:=h (l.getD i 0) (by rw[List.getD_eq_getElem?_getD,List.getElem?_eq_getElem hi];exact List.getElem_mem _)
 omega
theorem FOwn.base {w:World} {b b':Nat} {v:Value} {l:List Nat} (h:FOwn w b v l) (hb:b'≤b):FOwn w b' v l:=by
 rcases h with h|⟨g,cap,cur,e,h1,h2⟩
 ·exact Or.inl h
 ·exact Or.inr ⟨g,cap,cur,e,Nat.le_trans hb h1,h2⟩
theorem FOwn.flt {w:World} {base b:Nat} {v x y:Value} {l:List Nat} (h:FOwn w base v l) (hb:v.ownBlock≠some b):FOwn ((w.setCell ⟨b,0,none⟩ x).setCell ⟨b,1,none⟩ y) base v l:=
 FOwn.oth (FOwn.oth h hb (fun _ hk=>q2p hk)) hb (fun _ hk=>q2p hk)
/-- A call hands back a list in a block of its own, and a fault. -/
def RetListO (w:World) (L:List Nat) (o:Bool) (e:Ending) (w':World):Prop:=∃ (v:Value) (c:Int),e= .returned (.tuple #[v,.agg #[.int .i64 c,.int .i64 0]])∧G w w'∧((o=true∧c=0∧FOwn w' w.heap.size v L)∨(o=false∧c=3∧v= .slice none 0 0))
/-- A store of a float. -/
theorem q0m (P:Program) (w:World) (a:Addr) (m:Mode) (k:FloatKind) (n:Nat):(store a (.float k n) m).run P w=stored P w a (.float k n) m:=run_store P w a _ m rfl
attribute [local go_sem] q0m
theorem q8h (w:World) (t:TypeId) (x y:Value):(w.alloc (.cells #[x,y] t)).cell? ⟨w.heap.size,0,none⟩=some x∧(w.alloc (.cells #[x,y] t)).cell? ⟨w.heap.size,1,none⟩=some y∧(w.alloc (.cells #[x,y] t)).frozen? ⟨w.heap.size,0,none⟩=false∧(w.alloc (.cells #[x,y] t)).frozen? ⟨w.heap.size,1,none⟩=false:=
 Rec.f2 (Rec.new2 w x y t)
set_option maxRecDepth 10000 in
/-- 'copy' of a list of up to two floats into an array of two. -/
theorem q7d (w:World) (a:Option Addr) (L:List Nat) (n c:Nat) (h:FSl w (.slice a n c) L) (hn:L.length=n) (h2:n≤2):
  ∃ w2,(Builtin.copy_ #[22,22] 3 #[.slice (some ⟨w.heap.size,0,none⟩) 2 2,.slice a n c]).run Tryz.prog (w.alloc (.cells #[.float .f64 0,.float .f64 0] 187))= .ok (goInt n) w2∧G w w2∧
   w2.cell? ⟨w.heap.size,0,none⟩=some (.float .f64 (L.getD 0 0))∧w2.cell? ⟨w.heap.size,1,none⟩=some (.float .f64 (L.getD 1 0)):=by
 have hA:=q8h w 187 (.float .f64 0) (.float .f64 0)
 have hG:G w (w.alloc (.cells #[.float .f64 0,.float .f64 0] 187)):=(G.refl w).alloc _
 have hkr:(Tryz.prog.info? 26).map (·.size)=some 1:=by kernel_rfl
 generalize w.alloc (.cells #[.float .f64 0,.float .f64 0] 187)=wA at *
 obtain⟨hA1,hA2,hA3,Sd⟩:=hA
 have hcell:∀ k,k<2→(wA.cell? ⟨w.heap.size,k,none⟩).isSome=true∧wA.frozen? ⟨w.heap.size,k,none⟩=false:=fun k hk=>by
  have:k=0∨k=1:=by omega
  rcases this with rfl|rfl
  ·rw[hA1];exact⟨rfl,hA3⟩
  ·rw[hA2];exact⟨rfl,Sd⟩
 by_cases h0:n=0
 ·subst h0
  have hL:L=[]:=List.eq_nil_of_length_eq_zero hn
  subst hL
  exact⟨wA,run_copy_none _ 22 22 3 26 _ _ _ _ _ _ Tryz.underlying22 hkr (Nat.zero_min _),hG,hA1,hA2⟩
 ·obtain⟨a',c',e,-,hr⟩:=h
  injection e with e1 e2 e3
  subst e1
  obtain⟨b,o,rfl,hb,-⟩:=hr 0 (by omega)
  have hr2:∀ i,i<L.length→w.cell? ⟨b,o+i,none⟩=some (.float .f64 (L.getD i 0)):=fun i hi=>by
   obtain⟨b2,o2,e2,-,h⟩:=hr i hi
   injection e2 with e2
   injection e2 with e4 e5
   subst e4;subst e5
   exact h
  have h:=run_copy_cells (P:=Tryz.prog) wA 22 22 3 26 w.heap.size 0 2 2 ⟨b,o,none⟩ n c (fl L) Tryz.underlying22 hkr
   (by rw[q1u,hn];exact(Nat.min_eq_left h2).symm)
   (fun j u hu=>by
    have hj:j<L.length:=by rw[← q1u L];exact(List.getElem?_eq_some_iff.1 hu).1
    rw[q7u hj] at hu
    rw[addr_add]
    have:=hG.cell (p:=⟨b,o+j,none⟩) hb (hr2 j hj)
    rw[this,Option.some.inj hu])
   (fun j hj=>by rw[q1u] at hj;rw[Nat.zero_add];exact(hcell j (by omega)).1)
   (fun j hj=>by rw[q1u] at hj;rw[Nat.zero_add];exact(hcell j (by omega)).2)
   (fun u hu=>by
    obtain⟨b2,-,rfl⟩:=List.mem_map.1 hu
    rfl)
  rw[q1u,hn] at h
  refine⟨_,h,G.setCells (Nat.le_refl _) _ _ _ hG,?_,?_⟩
  ·rcases L with _|⟨x,_|⟨y,_|⟨z,L⟩⟩⟩
   ·exact absurd hn.symm h0
   ·simp only[fl,List.map_cons,List.map_nil,World.setCells]
    rw[World.cell?_setCell_same _ _ _ hA1]
    rfl
   ·simp only[fl,List.map_cons,List.map_nil,World.setCells]
    rw[World.cell?_setCell_other _ _ _ _ (by intro e;injection e with e1 e2;omega),World.cell?_setCell_same _ _ _ hA1]
    rfl
   ·simp at hn;omega
  ·rcases L with _|⟨x,_|⟨y,_|⟨z,L⟩⟩⟩
   ·exact absurd hn.symm h0
   ·simp only[fl,List.map_cons,List.map_nil,World.setCells]
    rw[World.cell?_setCell_other _ _ _ _ (by intro e;injection e with e1 e2;omega),hA2]
    rfl
   ·simp only[fl,List.map_cons,List.map_nil,World.setCells]
    have h3:(wA.setCell ⟨w.heap.size,0,none⟩ (.float .f64 x)).cell? ⟨w.heap.size,0+1,none⟩=some (.float .f64 0):=by
     rw[World.cell?_setCell_other _ _ _ _ (by intro e;injection e with e1 e2;omega)]
     exact hA2
    exact World.cell?_setCell_same _ _ _ h3
   ·simp at hn;omega
set_option maxRecDepth 10000 in
theorem q4d (w:World) (v:Value) (x:Rat) (L:List Nat) (hT:Tab w) (h:QIs w v x) (hF:Fr 2 x L true):
  Calls Tryz.prog 106 #[v] w fun e w'=>e= .returned (.tuple #[.agg #[.float .f64 (L.getD 0 0),.float .f64 (L.getD 1 0)],.int .i64 0])∧G w w':=by
 have hlen:=q5Y hF
 have xA:Hid (∀ w1,G w w1→_):=fun w1 g=>q5i w1 v x 2 L true (hT.G g) (by omega) (h.G g) hF
 obtain⟨a,k,c,a',k',c',rfl,-,-⟩:=h
 generalize decide (x.num<0)=t at *
 obtain⟨b,hb⟩:∃ b,b=L.getD 0 0:=⟨_,rfl⟩
 obtain⟨d,hd⟩:∃ d,d=L.getD 1 0:=⟨_,rfl⟩
 rw[← hb,← hd]
 have yJ:Hid (b=L.getD 0 0∧d=L.getD 1 0):=⟨hb,hd⟩
 clear hF hT hb hd
 go_enter Tryz.func106,Tryz.ntmps106
 go_wp2_with fail
 obtain⟨w0,aD,g0,hz0,R0,R1⟩:=q1B w [.bool t,.slice a k c,.slice a' k' c'] [.float .f64 0,.float .f64 0] 97 54
 rw[aD]
 clear aD
 refine Calls.mono (P:=Tryz.prog) (xA.out w0 g0) ?_
 intro e1 w1 hs
 obtain⟨v,rfl,g1,hv⟩:=hs
 have cB:=G.trans g0 g1
 have RP:Hid (Rec w1 (w.heap.size+1) [.float .f64 0,.float .f64 0]):=Rec.G R1.out g1
 have hlt:=RP.out.lt
 clear R0 R1 hz0 xA g0 g1
 rcases hv with ⟨-,hv⟩|⟨h,-⟩
 case inr=>cases h
 have HV:Hid (FSl w1 v L):=hv
 obtain⟨pl,cl,rfl,-,-⟩:=hv
 obtain⟨w2,hrun,g2,hc0,hc1⟩:=q7d w1 pl L L.length cl HV.out rfl hlen
 clear HV
 generalize L.length=n at *
 rw[← yJ.out.1] at hc0
 rw[← yJ.out.2] at hc1
 clear yJ
 have jF:=Rec.f2 (Rec.G RP.out (g2))
 have wK:=jF.1
 have wM:=jF.2.1
 have wN:=jF.2.2.1
 have wO:=jF.2.2.2
 clear jF
 have hlt2:=g2.size
 go_wp2_with fail
 clear hrun hc0 hc1
 go_wp2_with fail
 have hT:Hid (Rec (World.setCell (World.setCell w2 ⟨w.heap.size+1,0,none⟩ (.float .f64 b)) ⟨w.heap.size+1,1,none⟩ (.float .f64 d)) (w.heap.size+1) [.float .f64 b,.float .f64 d]):=Rec.set2 (Rec.G RP.out (g2))
 have g9:=Rec.g2 (b:=w.heap.size+1) (u:= .float .f64 b) (v:= .float .f64 d) (G.trans cB g2) (by omega)
 generalize (World.setCell (World.setCell w2 ⟨w.heap.size+1,0,none⟩ (.float .f64 b)) ⟨w.heap.size+1,1,none⟩ (.float .f64 d))=w9 at *
 have hF:=Rec.f2 (Rec.G hT.out ((G.refl _)))
 have bS:=hF.1
 have bU:=hF.2.1
 have bV:=hF.2.2.1
 have bW:=hF.2.2.2
 clear hF
 refine bodyPost_ret (v:= .tuple #[.agg #[.float .f64 b,.float .f64 d],.int .i64 0]) (by simp [results,Tryz.results106,go_sem, *]) rfl ?_
 exact⟨rfl,g9⟩
end Go.Proofs.YtljkfjjchkehaaaGreatDoor.EN
namespace Go.Proofs.YtljkfjjchkehaaaGreatDoor.EN
open Go.ChangeShapes Go.WideShapes Go.ChangeAt Go.RowKit
attribute [local go_sem] q0m
theorem q2M {w:World} {b x y:Nat} (h:Rec w b [.float .f64 x,.float .f64 y]):FSl w (.slice (some ⟨b,0,none⟩) 2 2) [x,y]:=by
 obtain⟨h1,h2,-,-⟩:=h.f2
 refine⟨_,2,rfl,Nat.le_refl _,fun i hi=>⟨b,0,rfl,h.lt,?_⟩⟩
 have:i=0∨i=1:=by simp at hi;omega
 rcases this with rfl|rfl
 ·exact h1
 ·exact h2
theorem q2n (u v:Nat) (w:World):(Op.equalIn 9999 26 (.float .f64 u) (.float .f64 v)).run Tryz.prog w= .ok (FloatKind.f64.format.order u v==some .eq) w:=by kernel_rfl
set_option maxRecDepth 10000 in
theorem q5O (w:World) (x y:Nat) (L:List Nat) (hT:Tab w) (hx:x<2^64) (hy:y<2^64) (hfx:fex x<2047) (yT:fex y<2047) (hF:Fr 2 (Uz ([x,y].map fz).sum) L true)
  (h1:(FloatKind.f64.format.order (L.getD 0 0) x==some .eq)=true) (h2:(FloatKind.f64.format.order (L.getD 1 0) y==some .eq)=true):
  Calls Tryz.prog 105 #[.agg #[.float .f64 x,.float .f64 y]] w (q15 w (Uz ([x,y].map fz).sum) 0):=by
 have hfin:Fin [x,y]:=by
  intro b hb
  simp at hb
  rcases hb with rfl|rfl<;>assumption
 have hlt:∀ b∈[x,y],b<2^64:=by
  intro b hb
  simp at hb
  rcases hb with rfl|rfl<;>assumption
 have HR:Hid (∀ w1 v,G w w1→FSl w1 v [x,y]→_):=fun w1 v g h=>q6k w1 v [x,y] (hT.G g) h hlt (by simp)
 have HT2:Hid (∀ w2 v,G w w2→NSl w2 v ([x,y].map fz)→_):=fun w2 v g hv=>q4p w2 v [x,y] (hT.G g) hv (by simp)
 have HP:Hid (∀ w2 v,G w w2→QIs w2 v (Uz ([x,y].map fz).sum)→_):=fun w2 v g hv=>q4d w2 v _ L (hT.G g) hv hF
 have HFin:Hid (Fin [x,y]):=hfin
 clear hfin hlt hT hx hy hfx yT hF
 obtain⟨q,hq⟩:∃ q,q=Uz ([x,y].map fz).sum:=⟨_,rfl⟩
 rw[← hq] at HT2 HP ⊢
 generalize L.getD 0 0=b at *
 generalize L.getD 1 0=d at *
 clear hq
 go_enter Tryz.func105,Tryz.ntmps105
 go_wp2_with fail
 obtain⟨w0,aD,g0,hz0,R0,R1,R2⟩:=q0K w [.float .f64 x,.float .f64 y] [.bool false,.slice none 0 0,.slice none 0 0] [.float .f64 x,.float .f64 y] 54 97 26
 rw[aD]
 clear aD
 refine Calls.mono (P:=Tryz.prog) (HR.out w0 _ g0 (q2M R2.out)) ?_
 intro e1 w1 hs
 obtain⟨v,c,a,rfl,g1,hv⟩:=hs
 rcases hv with ⟨rfl,rfl,-,hv⟩|⟨i,-,-,-,hi1,hi2,-⟩
 case inr=>exact absurd hi2 (fun h=>q3g HFin.out hi1 h)
 have cB:=G.trans g0 g1
 have HV:Hid (NSl w1 v ([x,y].map fz)):=hv
 have RX:Hid (Rec w1 w.heap.size [.float .f64 x,.float .f64 y]):=Rec.G R0.out g1
 have RQ:Hid (Rec w1 (w.heap.size+1) [.bool false,.slice none 0 0,.slice none 0 0]):=Rec.G R1.out g1
 clear R0 R1 R2 HR hv hz0 g1 g0
 have hlt:=RQ.out.lt
 go_wp2_with fail
 obtain⟨w2,aD,g2,hz2,R0⟩:=q0l w1 [.int .i64 0,.int .i64 0] 29
 rw[aD]
 clear aD
 have dJ:=G.trans cB g2
 refine Calls.mono (P:=Tryz.prog) (HT2.out w2 v dJ (NSl.G HV.out g2)) ?_
 intro e1 w3 hs
 obtain⟨p,rfl,g3,hp⟩:=hs
 have HQ:Hid (QIs w3 p q):=hp
 obtain⟨a8,k8,c8,a9,k9,c9,rfl,-,-⟩:=hp
 generalize decide (q.num<0)=t9 at *
 have g13:=G.trans g2 g3
 clear HT2 HV R0 hz2 hlt
 go_wp2_with fail
 obtain⟨w4,aD,g4,qo,R0⟩:=q0l w3 [.bool t9,.slice a8 k8 c8,.slice a9 k9 c9] 97
 rw[aD]
 clear aD
 have g14:=G.trans g13 g4
 refine Calls.mono (P:=Tryz.prog) (HP.out w4 _ (G.trans cB g14) (QIs.G HQ.out g4)) ?_
 rintro e1 w5 ⟨rfl,g5⟩
 have g15:=G.trans g14 g5
 have R5:Hid (Rec w5 w3.heap.size [.bool t9,.slice a8 k8 c8,.slice a9 k9 c9]):=Rec.G R0.out g5
 have Sc:Hid (QIs w5 (.agg #[.bool t9,.slice a8 k8 c8,.slice a9 k9 c9]) q):=QIs.G HQ.out (G.trans g4 g5)
 have mZ:=G.trans cB g15
 have wQ:Hid (Rec w5 w.heap.size [.float .f64 x,.float .f64 y]):=Rec.G RX.out g15
 have qz:Hid (Rec w5 (w.heap.size+1) [.bool false,.slice none 0 0,.slice none 0 0]):=Rec.G RQ.out g15
 clear HP HQ R0 RX RQ qo g15 g14 g13
 have hlt1:=wQ.out.lt
 have hlt2:=qz.out.lt
 have hlt3:=R5.out.lt
 have rP:=Rec.f3 (Rec.G R5.out (G.refl _))
 have Mt:=rP.1
 have Mv:=rP.2.1
 have Mw:=rP.2.2.1
 have Mx:=rP.2.2.2.1
 have MB:=rP.2.2.2.2.1
 have MC:=rP.2.2.2.2.2
 clear rP
 have dG:=Rec.f2 (Rec.G wQ.out (G.refl _))
 have oN:=dG.1
 have oO:=dG.2.1
 have oP:=dG.2.2.1
 have oQ:=dG.2.2.2
 clear dG
 have bP:=Rec.f3 (Rec.G qz.out (G.refl _))
 have oU:=bP.1
 have oV:=bP.2.1
 have oW:=bP.2.2.1
 have oZ:=bP.2.2.2.1
 have p8:=bP.2.2.2.2.1
 have pg:=bP.2.2.2.2.2
 clear bP
 have he1:=fun w=>q2n b x w
 have he2:=fun w=>q2n d y w
 rw[h1] at he1
 rw[h2] at he2
 clear h1 h2
 have mq:Hid (QIs _ _ _):=QIs.set3 (u1:= .bool t9) (u2:= .slice a8 k8 c8) (u3:= .slice a9 k9 c9) Sc.out qz.out trivial trivial trivial
 go_wp2_with fail
 have hT:Hid (Rec (World.setCell (World.setCell (World.setCell w5 ⟨w.heap.size+1,0,none⟩ (.bool t9)) ⟨w.heap.size+1,1,none⟩ (.slice a8 k8 c8)) ⟨w.heap.size+1,2,none⟩ (.slice a9 k9 c9)) (w.heap.size+1) [.bool t9,.slice a8 k8 c8,.slice a9 k9 c9]):=Rec.set3 (Rec.G qz.out (G.refl _))
 have g9:=Rec.g3 (b:=w.heap.size+1) (u:= .bool t9) (v:= .slice a8 k8 c8) (x:= .slice a9 k9 c9) (mZ) (by omega)
 generalize (World.setCell (World.setCell (World.setCell w5 ⟨w.heap.size+1,0,none⟩ (.bool t9)) ⟨w.heap.size+1,1,none⟩ (.slice a8 k8 c8)) ⟨w.heap.size+1,2,none⟩ (.slice a9 k9 c9))=w9 at *
 have hF:=Rec.f3 (Rec.G hT.out ((G.refl _)))
 have bS:=hF.1
 have bU:=hF.2.1
 have bV:=hF.2.2.1
 have bW:=hF.2.2.2.1
 have il:=hF.2.2.2.2.1
 have iq:=hF.2.2.2.2.2
 clear hF
 have pE:=Rec.lt hT.out
 refine bodyPost_ret (v:= .tuple #[.agg #[.bool t9,.slice a8 k8 c8,.slice a9 k9 c9],.int .i64 0]) (by simp [results,Tryz.results105,go_sem, *]) rfl ?_
 exact⟨_,rfl,g9.alloc _,QIs.G mq.out ((G.refl _).alloc _)⟩
end Go.Proofs.YtljkfjjchkehaaaGreatDoor.EN
namespace Go.Proofs.YtljkfjjchkehaaaGreatDoor.EN
open Go.ChangeShapes Go.WideShapes Go.ChangeAt Go.RowKit
attribute [local go_sem] q0m
set_option maxRecDepth 10000 in
theorem q6C (w:World) (x1 y1 x2 y2 b d FR:Nat) (u v r:Rat)
  (lL:∀ w1,G w w1→Calls Tryz.prog 105 #[.agg #[.float .f64 x1,.float .f64 y1]] w1 (q15 w1 u 0))
  (nN:∀ w1,G w w1→Calls Tryz.prog 105 #[.agg #[.float .f64 x2,.float .f64 y2]] w1 (q15 w1 v 0))
  (HB:∀ w1 a c,G w w1→QIs w1 a u→QIs w1 c v→Calls Tryz.prog FR #[a,c] w1 (q15 w1 r 0))
  (HE:∀ args w,(callFunc FR args).run Tryz.prog w= .ok (.enter FR args) w)
  (HP:∀ w1 a,G w w1→QIs w1 a r→Calls Tryz.prog 106 #[a] w1 fun e w'=>e= .returned (.tuple #[.agg #[.float .f64 b,.float .f64 d],.int .i64 0])∧G w1 w'):
  Calls Tryz.prog 60 #[.agg #[.float .f64 x1,.float .f64 y1],.agg #[.float .f64 x2,.float .f64 y2],.func (.func FR) #[] #[]] w fun e w'=>e= .returned (.tuple #[.agg #[.float .f64 b,.float .f64 d],.int .i64 0])∧G w w':=by
 have H1:Hid (∀ w1,G w w1→_):=lL
 have H2:Hid (∀ w1,G w w1→_):=nN
 have H3:Hid (∀ w1 a c,G w w1→QIs w1 a u→QIs w1 c v→_):=HB
 have H4:Hid (∀ w1 a,G w w1→QIs w1 a r→_):=HP
 clear lL nN HB HP
 go_enter Tryz.func60,Tryz.ntmps60
 go_wp2_with fail
 obtain⟨w0,aD,g0,hz0,R0,R1,R2⟩:=q0K w [.float .f64 x1,.float .f64 y1] [.float .f64 x2,.float .f64 y2] [.float .f64 0,.float .f64 0] 54 54 54
 rw[aD]
 clear aD
 refine Calls.mono (P:=Tryz.prog) (H1.out w0 g0) ?_
 intro e1 w1 hs
 obtain⟨p,rfl,g1,hp⟩:=hs
 have uy:Hid (QIs w1 p u):=hp
 obtain⟨a8,k8,c8,a9,k9,c9,rfl,-,-⟩:=hp
 generalize decide (u.num<0)=t9 at *
 have cB:=G.trans g0 g1
 have RB:Hid (Rec w1 (w.heap.size+1) [.float .f64 x2,.float .f64 y2]):=Rec.G R1.out g1
 have RR:Hid (Rec w1 (w.heap.size+1+1) [.float .f64 0,.float .f64 0]):=Rec.G R2.out g1
 clear H1 R0 R1 R2 hz0 g0 g1
 have hlt:=RB.out.lt
 have fU:=Rec.f2 (Rec.G RB.out (G.refl _))
 have kv:=fU.1
 have ky:=fU.2.1
 have kz:=fU.2.2.1
 have kC:=fU.2.2.2
 clear fU
 go_wp2_with fail
 clear kv ky kz kC
 obtain⟨w2,aD,g2,hz2,R0⟩:=q0l w1 [.bool t9,.slice a8 k8 c8,.slice a9 k9 c9] 97
 rw[aD]
 clear aD
 have dJ:=G.trans cB g2
 refine Calls.mono (P:=Tryz.prog) (H2.out w2 dJ) ?_
 intro e1 w3 hs
 obtain⟨q,rfl,g3,hq⟩:=hs
 have xz:Hid (QIs w3 q v):=hq
 obtain⟨a6,k6,c6,a7,k7,c7,rfl,-,-⟩:=hq
 generalize decide (v.num<0)=t7 at *
 have R3:Hid (Rec w3 w1.heap.size [.bool t9,.slice a8 k8 c8,.slice a9 k9 c9]):=Rec.G R0.out g3
 have nZ:Hid (QIs w3 (.agg #[.bool t9,.slice a8 k8 c8,.slice a9 k9 c9]) u):=QIs.G uy.out (G.trans g2 g3)
 have g13:=G.trans g2 g3
 clear H2 uy R0 RB hlt hz2
 have hlt3:=R3.out.lt
 have fV:=Rec.f3 (Rec.G R3.out (G.refl _))
 have mJ:=fV.1
 have mK:=fV.2.1
 have mM:=fV.2.2.1
 have mO:=fV.2.2.2.1
 have mP:=fV.2.2.2.2.1
 have mQ:=fV.2.2.2.2.2
 clear fV
 go_wp2_with fail
 clear mJ mK mM mO mP mQ hlt3 HE R3
 obtain⟨w4,aD,g4,qo,R0⟩:=q0l w3 [.bool t7,.slice a6 k6 c6,.slice a7 k7 c7] 97
 rw[aD]
 clear aD
 have g14:=G.trans g13 g4
 refine Calls.mono (P:=Tryz.prog) (H3.out w4 _ _ (G.trans cB g14) (QIs.G nZ.out g4) (QIs.G xz.out g4)) ?_
 intro e1 w5 hs
 obtain⟨s,rfl,g5,hs5⟩:=hs
 have HS:Hid (QIs w5 s r):=hs5
 obtain⟨a4,k4,c4,a5,k5,c5,rfl,-,-⟩:=hs5
 generalize decide (r.num<0)=t5 at *
 have g15:=G.trans g14 g5
 clear H3 nZ xz R0 qo
 go_wp2_with fail
 obtain⟨w6,aD,g6,Ms,R0⟩:=q0l w5 [.bool t5,.slice a4 k4 c4,.slice a5 k5 c5] 97
 rw[aD]
 clear aD
 have g16:=G.trans g15 g6
 refine Calls.mono (P:=Tryz.prog) (H4.out w6 _ (G.trans cB g16) (QIs.G HS.out g6)) ?_
 rintro e1 w7 ⟨rfl,g7⟩
 have g17:=G.trans g16 g7
 clear H4 HS R0 Ms
 have cu:=Rec.f2 (Rec.G RR.out (g17))
 have iP:=cu.1
 have iQ:=cu.2.1
 have iR:=cu.2.2.1
 have iT:=cu.2.2.2
 clear cu
 go_wp2_with fail
 have hT:Hid (Rec (World.setCell (World.setCell w7 ⟨w.heap.size+1+1,0,none⟩ (.float .f64 b)) ⟨w.heap.size+1+1,1,none⟩ (.float .f64 d)) (w.heap.size+1+1) [.float .f64 b,.float .f64 d]):=Rec.set2 (Rec.G RR.out (g17))
 have g9:=Rec.g2 (b:=w.heap.size+1+1) (u:= .float .f64 b) (v:= .float .f64 d) (G.trans cB g17) (by omega)
 generalize (World.setCell (World.setCell w7 ⟨w.heap.size+1+1,0,none⟩ (.float .f64 b)) ⟨w.heap.size+1+1,1,none⟩ (.float .f64 d))=w9 at *
 have hF:=Rec.f2 (Rec.G hT.out ((G.refl _)))
 have bS:=hF.1
 have bU:=hF.2.1
 have bV:=hF.2.2.1
 have bW:=hF.2.2.2
 clear hF
 refine bodyPost_ret (v:= .tuple #[.agg #[.float .f64 b,.float .f64 d],.int .i64 0]) (by simp [results,Tryz.results60,go_sem, *]) rfl ?_
 exact⟨rfl,g9⟩
set_option maxRecDepth 10000 in
theorem qcj (w:World) (x1 y1 x2 y2 b d:Nat)
  (HR:∀ w1,G w w1→Calls Tryz.prog 60 #[.agg #[.float .f64 x1,.float .f64 y1],.agg #[.float .f64 x2,.float .f64 y2],.func (.func 64) #[] #[]] w1 fun e w'=>e= .returned (.tuple #[.agg #[.float .f64 b,.float .f64 d],.int .i64 0])∧G w1 w'):
  Calls Tryz.prog 28 #[.agg #[.float .f64 x1,.float .f64 y1],.agg #[.float .f64 x2,.float .f64 y2]] w fun e w'=>e= .returned (.tuple #[.agg #[.float .f64 b,.float .f64 d],.int .i64 0])∧G w w':=by
 have H1:Hid (∀ w1,G w w1→_):=HR
 clear HR
 go_enter Tryz.func28,Tryz.ntmps28
 go_wp2_with fail
 obtain⟨w0,aD,g0,hz0,R0,R1,R2⟩:=q0K w [.float .f64 x1,.float .f64 y1] [.float .f64 x2,.float .f64 y2] [.float .f64 0,.float .f64 0] 54 54 54
 rw[aD]
 clear aD
 refine Calls.mono (P:=Tryz.prog) (H1.out w0 g0) ?_
 rintro e1 w1 ⟨rfl,g1⟩
 have RR:Hid (Rec w1 (w.heap.size+1+1) [.float .f64 0,.float .f64 0]):=Rec.G R2.out g1
 clear H1 R0 R1 R2 hz0
 have cu:=Rec.f2 (Rec.G RR.out (G.refl _))
 have iP:=cu.1
 have iQ:=cu.2.1
 have iR:=cu.2.2.1
 have iT:=cu.2.2.2
 clear cu
 go_wp2_with fail
 have hT:Hid (Rec (World.setCell (World.setCell w1 ⟨w.heap.size+1+1,0,none⟩ (.float .f64 b)) ⟨w.heap.size+1+1,1,none⟩ (.float .f64 d)) (w.heap.size+1+1) [.float .f64 b,.float .f64 d]):=Rec.set2 (Rec.G RR.out (G.refl _))
 have g9:=Rec.g2 (b:=w.heap.size+1+1) (u:= .float .f64 b) (v:= .float .f64 d) (G.trans g0 g1) (by omega)
 generalize (World.setCell (World.setCell w1 ⟨w.heap.size+1+1,0,none⟩ (.float .f64 b)) ⟨w.heap.size+1+1,1,none⟩ (.float .f64 d))=w9 at *
 have hF:=Rec.f2 (Rec.G hT.out ((G.refl _)))
 have bS:=hF.1
 have bU:=hF.2.1
 have bV:=hF.2.2.1
 have bW:=hF.2.2.2
 clear hF
 refine bodyPost_ret (v:= .tuple #[.agg #[.float .f64 b,.float .f64 d],.int .i64 0]) (by simp [results,Tryz.results28,go_sem, *]) rfl ?_
 exact⟨rfl,g9⟩
end Go.Proofs.YtljkfjjchkehaaaGreatDoor.EN
namespace Go.Proofs.YtljkfjjchkehaaaGreatDoor.EN
open Go.ChangeShapes Go.WideShapes Go.ChangeAt Go.RowKit
attribute [local go_sem] q0m
theorem q5Q (w:World) (hT:Tab w):Calls Tryz.prog 28 #[.agg #[.float .f64 4607182418800017408,.float .f64 0],.agg #[.float .f64 4613937818241073152,.float .f64 0]] w
  fun e w'=>e= .returned (.tuple #[.agg #[.float .f64 4599676419421066581,.float .f64 4356482039543059797],.int .i64 0])∧G w w':=by
 obtain⟨b1,b2,b3⟩:=q4X
 have e1:(FloatKind.f64.format.order 4607182418800017408 4607182418800017408==some .eq)=true:=by decide+kernel
 have e2:(FloatKind.f64.format.order 0 0==some .eq)=true:=by decide+kernel
 have e3:(FloatKind.f64.format.order 4613937818241073152 4613937818241073152==some .eq)=true:=by decide+kernel
 refine qcj w _ _ _ _ _ _ fun w1 g=> ?_
 have hT1:=hT.G g
 refine q6C w1 _ _ _ _ _ _ _ (Uz ([4607182418800017408,0].map fz).sum) (Uz ([4613937818241073152,0].map fz).sum) (Uz ([4607182418800017408,0].map fz).sum/Uz ([4613937818241073152,0].map fz).sum) ?_ ?_ ?_ (fun _ _=>by kernel_rfl) ?_
 ·exact fun w2 g2=>q5O w2 _ _ _ (hT1.G g2) (by decide) (by decide) (by decide+kernel) (by decide+kernel) q8N e1 e2
 ·exact fun w2 g2=>q5O w2 _ _ _ (hT1.G g2) (by decide) (by decide) (by decide+kernel) (by decide+kernel) q6M e3 e2
 ·intro w2 a c g2 ha hc
  have h:=q8c w2 a c _ _ 80 (by omega) (by omega) (hT1.G g2) ha hc b1 b2
  rw[if_neg b3,if_neg b3] at h
  exact h
 ·exact fun w2 a g2 ha=>q4d w2 a _ _ (hT1.G g2) ha q6o
theorem q6R (w:World) (b:Nat):Calls Tryz.prog 23 #[.float .f64 b,.float .f64 b] w fun e w'=>e= .returned (.bool true)∧G w w':=by
 have htb:=fun w=>q0J b w
 go_enter Tryz.func23,Tryz.ntmps23
 go_wp2_with fail
 go_ret
 exact⟨rfl,G.refl _⟩
theorem q5e (w:World) (v u:Value) (l:List Nat) (hv:FSl w v l) (hu:FSl w u l) (hn:l.length≤100000):
  Calls Tryz.prog 19 #[v,u,.func (.func 23) #[] #[]] w fun e w'=>e= .returned (.bool true)∧G w w':=by
 obtain⟨pa,ca,rfl,-,hr1⟩:=hv
 obtain⟨pb,cb,rfl,-,hr2⟩:=hu
 have H1:Hid _:=hr1
 have H2:Hid _:=hr2
 clear hr1 hr2
 have hcf:∀ args w,(callFunc 23 args).run Tryz.prog w= .ok (.enter 23 args) w:=fun _ _=>by kernel_rfl
 obtain⟨n,hn'⟩:∃ n,n=l.length:=⟨_,rfl⟩
 rw[← hn'] at hn ⊢
 have HN:Hid (n=l.length):=hn'
 clear hn'
 go_enter Tryz.func19,Tryz.ntmps19
 go_wp2_with fail
 go_loopw [15] (fun vk wr=>∃ k:Nat,k≤n∧vk= .int .i64 k∧G w wr) (fun vk _=>n-(intOf vk).toNat)
 case atStart=>exact⟨0,Nat.zero_le _,rfl,G.refl _⟩
 case round=>
  obtain⟨k,hk,rfl,hG⟩:=hrel
  by_cases hkn:k<n
  ·obtain⟨b1,o1,rfl,hB1,hc1'⟩:=H1.out k (by rw[← HN.out];exact hkn)
   obtain⟨b2,o2,rfl,hB2,hc2'⟩:=H2.out k (by rw[← HN.out];exact hkn)
   have hc1:=hG.cell (p:=⟨b1,o1+k,none⟩) hB1 hc1'
   have hc2:=hG.cell (p:=⟨b2,o2+k,none⟩) hB2 hc2'
   generalize l.getD k 0=x at *
   have hs:=hG.size
   have hb1:b1<wr.heap.size:=by omega
   have hb2:b2<wr.heap.size:=by omega
   clear hc1' hc2' hB1 hB2
   go_wp2_with fail
   refine q0d (by kernel_rfl) (by kernel_rfl) ?_
   intro W hW
   have hq1:=q08 (w:=W) (a:=⟨b1,o1+k,none⟩) (x:= .float .f64 x) (by rw[hW];first|(simp;done)|(simp;omega)|omega) (by rw[hW];first|assumption|(simp [go_sem];done)|(simp [*,go_sem];done))
   have hq2:=q08 (w:=W) (a:=⟨b2,o2+k,none⟩) (x:= .float .f64 x) (by rw[hW];first|(simp;done)|(simp;omega)|omega) (by rw[hW];first|assumption|(simp [go_sem];done)|(simp [*,go_sem];done))
   clear hW
   repeat (go_big_quiet_step (exact q21 (q6R _ _)))
   refine wpQuiet_nil ?_
   clear hq1 hq2
   intro w5 nS
   have iK:=G.trans hG nS
   clear nS hc1 hc2
   go_wp2_with fail
   go_roundw
   case rel=>exact⟨k+1,by omega,by go_num,iK⟩
   case measure=>simp only[intOf];omega
  ·obtain rfl:k=n:=by omega
   go_wp2_with fail
   go_ret
   exact⟨rfl,hG⟩
end Go.Proofs.YtljkfjjchkehaaaGreatDoor.EN
namespace Go.Proofs.YtljkfjjchkehaaaGreatDoor.EN
open Go.ChangeShapes Go.WideShapes Go.ChangeAt Go.RowKit
attribute [local go_sem] q0m
theorem q53 {w:World} {b x y z:Nat} (h:Rec w b [.float .f64 x,.float .f64 y,.float .f64 z]):FSl w (.slice (some ⟨b,0,none⟩) 3 3) [x,y,z]:=by
 obtain⟨h1,h2,h3,-,-,-⟩:=h.f3
 refine⟨_,3,rfl,Nat.le_refl _,fun i hi=>⟨b,0,rfl,h.lt,?_⟩⟩
 have:i=0∨i=1∨i=2:=by simp at hi;omega
 rcases this with rfl|rfl|rfl
 ·exact h1
 ·exact h2
 ·exact h3
set_option maxRecDepth 10000 in
theorem q3v (w:World) (hT:Tab w):Calls Tryz.prog 7 #[] w fun e w'=>e= .returned (.bool true)∧G w w':=by
 have hfin:Fin l3:=by
  intro b hb
  simp [l3] at hb
  rcases hb with rfl|rfl|rfl<;>decide+kernel
 have hlt:∀ b∈l3,b<2^64:=by
  intro b hb
  simp [l3] at hb
  rcases hb with rfl|rfl|rfl<;>decide
 have HO:Hid (∀ w1 v,G w w1→FSl w1 v l3→Calls Tryz.prog 16 #[v] w1 fun e w'=>∃ v,e= .returned (.tuple #[v,.agg #[.int .i64 0,.int .i64 0]])∧G w1 w'∧FSl w' v [4861130398305394688,4607182418800017408,4307583784117748259]):=fun w1 v g h=>by
  refine(qcm w1 v l3 _ true (hT.G g) h hlt (by simp [l3]) (by simp) (fun _=>q4O)).mono ?_
  rintro e w' ⟨v,c,a,rfl,g1,hv⟩
  rcases hv with ⟨-,rfl,⟨-,rfl,hv⟩|⟨h,-⟩⟩|⟨i,-,-,-,hi1,hi2,-⟩
  ·exact⟨v,rfl,g1,hv⟩
  ·cases h
  ·exact absurd hi2 (fun h=>q3g hfin hi1 h)
 have HQ:Hid (∀ w1,G w w1→_):=fun w1 g=>q5Q w1 (hT.G g)
 have HL:Hid (∀ w1 v u,FSl w1 v [4861130398305394688,4607182418800017408,4307583784117748259]→FSl w1 u [4861130398305394688,4607182418800017408,4307583784117748259]→_):=fun w1 v u h1 h2=>q5e w1 v u _ h1 h2 (by simp)
 have e1:(FloatKind.f64.format.order 4599676419421066581 4599676419421066581==some .eq)=true:=by decide+kernel
 have e2:(FloatKind.f64.format.order 4356482039543059797 4356482039543059797==some .eq)=true:=by decide+kernel
 clear hfin hlt hT
 go_enter Tryz.func7,Tryz.ntmps7
 go_wp2_with fail
 obtain⟨w0,aD,g0,hz0,R0⟩:=q0l w [.float .f64 4607182418800017408,.float .f64 4861130398305394688,.float .f64 4307583784117748259] 26
 rw[aD]
 clear aD
 refine Calls.mono (P:=Tryz.prog) (HO.out w0 _ g0 (q53 R0.out)) ?_
 intro e w1 hs
 obtain⟨v,rfl,g1,hv⟩:=hs
 have cB:=G.trans g0 g1
 have HV:Hid (FSl w1 v _):=hv
 clear HO R0 hz0 hv
 go_wp2_with fail
 obtain⟨w2,aD,g2,hz2,R0⟩:=q0l w1 [.int .i64 0,.int .i64 0] 29
 rw[aD]
 clear aD
 have RF:Hid (Rec _ _ _):=R0
 refine Calls.mono (P:=Tryz.prog) (HQ.out w2 (G.trans cB g2)) ?_
 rintro e w3 ⟨rfl,g3⟩
 have g13:=G.trans g2 g3
 have Mr:Hid (Rec w3 w1.heap.size [.int .i64 0,.int .i64 0]):=Rec.G RF.out g3
 have uG:Hid (FSl w3 v _):=FSl.G HV.out g13
 clear HQ R0 RF HV hz2
 have hlt:=Mr.out.lt
 have qm:=Rec.f2 (Rec.G Mr.out (G.refl _))
 have yF:=qm.1
 have yG:=qm.2.1
 have yH:=qm.2.2.1
 have yI:=qm.2.2.2
 clear qm
 go_wp2_with fail
 clear yF yG yH yI hlt
 obtain⟨w4,aD,g4,qo,R0,R1⟩:=q1B w3 [.float .f64 4599676419421066581,.float .f64 4356482039543059797] [.float .f64 4861130398305394688,.float .f64 4607182418800017408,.float .f64 4307583784117748259] 54 26
 rw[aD]
 clear aD
 have g14:=G.trans g13 g4
 refine Calls.mono (P:=Tryz.prog) (HL.out w4 _ _ (FSl.G uG.out g4) (q53 R1.out)) ?_
 rintro e w5 ⟨rfl,g5⟩
 have RP:Hid (Rec w5 w3.heap.size _):=Rec.G R0.out g5
 clear HL R0 R1 Mr uG qo
 have hlt:=RP.out.lt
 have jF:=Rec.f2 (Rec.G RP.out (G.refl _))
 have wK:=jF.1
 have wM:=jF.2.1
 have wN:=jF.2.2.1
 have wO:=jF.2.2.2
 clear jF
 go_wp2_with fail
 go_ret
 exact⟨rfl,G.trans cB (G.trans g14 g5)⟩
end Go.Proofs.YtljkfjjchkehaaaGreatDoor.EN
namespace Go.Proofs.YtljkfjjchkehaaaGreatDoor.EN
open Go.ChangeShapes Go.WideShapes Go.ChangeAt Go.RowKit
attribute [local go_sem] q0m
set_option maxRecDepth 10000 in
theorem q5v (w:World) (v:Value) (x:Rat) (L:List Nat) (hT:Tab w) (h:QIs w v x) (hL:L.length≤2) (hF:Fr 2 x L false):
  Calls Tryz.prog 106 #[v] w fun e w'=>e= .returned (.tuple #[.agg #[.float .f64 0,.float .f64 0],.int .i64 3])∧G w w':=by
 have xA:Hid (∀ w1,G w w1→_):=fun w1 g=>q5i w1 v x 2 L false (hT.G g) (by omega) (h.G g) hF
 obtain⟨a,k,c,a',k',c',rfl,-,-⟩:=h
 generalize decide (x.num<0)=t at *
 clear hF hT
 go_enter Tryz.func106,Tryz.ntmps106
 go_wp2_with fail
 obtain⟨w0,aD,g0,hz0,R0,R1⟩:=q1B w [.bool t,.slice a k c,.slice a' k' c'] [.float .f64 0,.float .f64 0] 97 54
 rw[aD]
 clear aD
 refine Calls.mono (P:=Tryz.prog) (xA.out w0 g0) ?_
 intro e1 w1 hs
 obtain⟨v,rfl,g1,hv⟩:=hs
 have cB:=G.trans g0 g1
 have RP:Hid (Rec w1 (w.heap.size+1) [.float .f64 0,.float .f64 0]):=Rec.G R1.out g1
 clear R0 R1 hz0 xA g0 g1
 rcases hv with ⟨h,-⟩|⟨-,rfl⟩
 case inl=>cases h
 have jF:=Rec.f2 (Rec.G RP.out (G.refl _))
 have wK:=jF.1
 have wM:=jF.2.1
 have wN:=jF.2.2.1
 have wO:=jF.2.2.2
 clear jF
 go_wp2_with fail
 have hT:Hid (Rec (World.setCell (World.setCell w1 ⟨w.heap.size+1,0,none⟩ (.float .f64 0)) ⟨w.heap.size+1,1,none⟩ (.float .f64 0)) (w.heap.size+1) [.float .f64 0,.float .f64 0]):=Rec.set2 (Rec.G RP.out (G.refl _))
 have g9:=Rec.g2 (b:=w.heap.size+1) (u:= .float .f64 0) (v:= .float .f64 0) (cB) (by omega)
 generalize (World.setCell (World.setCell w1 ⟨w.heap.size+1,0,none⟩ (.float .f64 0)) ⟨w.heap.size+1,1,none⟩ (.float .f64 0))=w9 at *
 have hF:=Rec.f2 (Rec.G hT.out ((G.refl _)))
 have bS:=hF.1
 have bU:=hF.2.1
 have bV:=hF.2.2.1
 have bW:=hF.2.2.2
 clear hF
 refine bodyPost_ret (v:= .tuple #[.agg #[.float .f64 0,.float .f64 0],.int .i64 3]) (by simp [results,Tryz.results106,go_sem, *]) rfl ?_
 exact⟨rfl,g9⟩
set_option maxRecDepth 10000 in
theorem q7Q (w:World) (x y:Nat) (hT:Tab w) (hx:x<2^64) (hy:y<2^64) (hf:¬ (fex x<2047∧fex y<2047)):
  Calls Tryz.prog 105 #[.agg #[.float .f64 x,.float .f64 y]] w (q15 w 0 4):=by
 have hlt:∀ b∈[x,y],b<2^64:=by
  intro b hb
  simp at hb
  rcases hb with rfl|rfl<;>assumption
 have hnf:¬ Fin [x,y]:=fun h=>hf ⟨h x (by simp),h y (by simp)⟩
 have HR:Hid (∀ w1 v,G w w1→FSl w1 v [x,y]→_):=fun w1 v g h=>q6k w1 v [x,y] (hT.G g) h hlt (by simp)
 have Sz:Hid (¬ Fin [x,y]):=hnf
 clear hlt hnf hT hx hy hf
 go_enter Tryz.func105,Tryz.ntmps105
 go_wp2_with fail
 obtain⟨w0,aD,g0,hz0,R0,R1,R2⟩:=q0K w [.float .f64 x,.float .f64 y] [.bool false,.slice none 0 0,.slice none 0 0] [.float .f64 x,.float .f64 y] 54 97 26
 rw[aD]
 clear aD
 refine Calls.mono (P:=Tryz.prog) (HR.out w0 _ g0 (q2M R2.out)) ?_
 intro e1 w1 hs
 obtain⟨v,c,a,rfl,g1,hv⟩:=hs
 rcases hv with ⟨-,-,hv,-⟩|⟨i,rfl,rfl,rfl,hi⟩
 case inl=>exact absurd hv Sz.out
 have cB:=G.trans g0 g1
 have RQ:Hid (Rec w1 (w.heap.size+1) [.bool false,.slice none 0 0,.slice none 0 0]):=Rec.G R1.out g1
 clear R0 R1 R2 HR hi hz0 g1 g0
 have hlt:=RQ.out.lt
 have rY:=Rec.f3 (Rec.G RQ.out (G.refl _))
 have MI:=rY.1
 have MJ:=rY.2.1
 have MK:=rY.2.2.1
 have ML:=rY.2.2.2.1
 have MM:=rY.2.2.2.2.1
 have MN:=rY.2.2.2.2.2
 clear rY
 go_wp2_with fail
 go_region
 go_wp2_with fail
 have hT:Hid (Rec (World.setCell (World.setCell (World.setCell w1 ⟨w.heap.size+1,0,none⟩ (.bool false)) ⟨w.heap.size+1,1,none⟩ (.slice none 0 0)) ⟨w.heap.size+1,2,none⟩ (.slice none 0 0)) (w.heap.size+1) [.bool false,.slice none 0 0,.slice none 0 0]):=Rec.set3 (Rec.G RQ.out (G.refl _))
 have g9:=Rec.g3 (b:=w.heap.size+1) (u:= .bool false) (v:= .slice none 0 0) (x:= .slice none 0 0) (cB) (by omega)
 generalize (World.setCell (World.setCell (World.setCell w1 ⟨w.heap.size+1,0,none⟩ (.bool false)) ⟨w.heap.size+1,1,none⟩ (.slice none 0 0)) ⟨w.heap.size+1,2,none⟩ (.slice none 0 0))=w9 at *
 have hF:=Rec.f3 (Rec.G hT.out ((G.refl _)))
 have bS:=hF.1
 have bU:=hF.2.1
 have bV:=hF.2.2.1
 have bW:=hF.2.2.2.1
 have il:=hF.2.2.2.2.1
 have iq:=hF.2.2.2.2.2
 clear hF
 have pE:=Rec.lt hT.out
 refine bodyPost_ret (v:= .tuple #[.agg #[.bool false,.slice none 0 0,.slice none 0 0],.int .i64 4]) (by simp [results,Tryz.results105,go_sem, *]) rfl ?_
 exact⟨_,rfl,(g9.alloc _).drew,q2s _⟩
set_option maxRecDepth 10000 in
theorem q2O (w:World) (x y b d:Nat) (co:Int) (hT:Tab w) (hx:x<2^64) (hy:y<2^64) (hfx:fex x<2047) (yT:fex y<2047)
  (hP:∀ w2 v,G w w2→QIs w2 v (Uz ([x,y].map fz).sum)→Calls Tryz.prog 106 #[v] w2 fun e w'=>e= .returned (.tuple #[.agg #[.float .f64 b,.float .f64 d],.int .i64 co])∧G w2 w')
  (hne:co=3∨(co=0∧((FloatKind.f64.format.order b x==some .eq)=false∨((FloatKind.f64.format.order b x==some .eq)=true∧(FloatKind.f64.format.order d y==some .eq)=false)))):
  Calls Tryz.prog 105 #[.agg #[.float .f64 x,.float .f64 y]] w (q15 w 0 6):=by
 have hfin:Fin [x,y]:=by
  intro b hb
  simp at hb
  rcases hb with rfl|rfl<;>assumption
 have hlt:∀ b∈[x,y],b<2^64:=by
  intro b hb
  simp at hb
  rcases hb with rfl|rfl<;>assumption
 have HR:Hid (∀ w1 v,G w w1→FSl w1 v [x,y]→_):=fun w1 v g h=>q6k w1 v [x,y] (hT.G g) h hlt (by simp)
 have HT2:Hid (∀ w2 v,G w w2→NSl w2 v ([x,y].map fz)→_):=fun w2 v g hv=>q4p w2 v [x,y] (hT.G g) hv (by simp)
 have HP:Hid (∀ w2 v,G w w2→QIs w2 v (Uz ([x,y].map fz).sum)→_):=hP
 have HFin:Hid (Fin [x,y]):=hfin
 have he1:=fun w=>q2n b x w
 have he2:=fun w=>q2n d y w
 clear hfin hlt hT hx hy hfx yT hP
 obtain⟨q,hq⟩:∃ q,q=Uz ([x,y].map fz).sum:=⟨_,rfl⟩
 rw[← hq] at HT2 HP
 clear hq
 rcases hne with rfl|⟨rfl,h1|⟨h1,h2⟩⟩
 ·clear he1 he2
  go_enter Tryz.func105,Tryz.ntmps105
  go_wp2_with fail
  obtain⟨w0,aD,g0,hz0,R0,R1,R2⟩:=q0K w [.float .f64 x,.float .f64 y] [.bool false,.slice none 0 0,.slice none 0 0] [.float .f64 x,.float .f64 y] 54 97 26
  rw[aD]
  clear aD
  refine Calls.mono (P:=Tryz.prog) (HR.out w0 _ g0 (q2M R2.out)) ?_
  intro e1 w1 hs
  obtain⟨v,c,a,rfl,g1,hv⟩:=hs
  rcases hv with ⟨rfl,rfl,-,hv⟩|⟨i,-,-,-,hi1,hi2,-⟩
  case inr=>exact absurd hi2 (fun h=>q3g HFin.out hi1 h)
  have cB:=G.trans g0 g1
  have HV:Hid (NSl w1 v ([x,y].map fz)):=hv
  have RX:Hid (Rec w1 w.heap.size [.float .f64 x,.float .f64 y]):=Rec.G R0.out g1
  have RQ:Hid (Rec w1 (w.heap.size+1) [.bool false,.slice none 0 0,.slice none 0 0]):=Rec.G R1.out g1
  clear R0 R1 R2 HR hv hz0 g1 g0
  have hlt:=RQ.out.lt
  go_wp2_with fail
  obtain⟨w2,aD,g2,hz2,R0⟩:=q0l w1 [.int .i64 0,.int .i64 0] 29
  rw[aD]
  clear aD
  have dJ:=G.trans cB g2
  refine Calls.mono (P:=Tryz.prog) (HT2.out w2 v dJ (NSl.G HV.out g2)) ?_
  intro e1 w3 hs
  obtain⟨p,rfl,g3,hp⟩:=hs
  have HQ:Hid (QIs w3 p q):=hp
  obtain⟨a8,k8,c8,a9,k9,c9,rfl,-,-⟩:=hp
  generalize decide (q.num<0)=t9 at *
  have g13:=G.trans g2 g3
  clear HT2 HV R0 hz2 hlt
  go_wp2_with fail
  obtain⟨w4,aD,g4,qo,R0⟩:=q0l w3 [.bool t9,.slice a8 k8 c8,.slice a9 k9 c9] 97
  rw[aD]
  clear aD
  have g14:=G.trans g13 g4
  refine Calls.mono (P:=Tryz.prog) (HP.out w4 _ (G.trans cB g14) (QIs.G HQ.out g4)) ?_
  rintro e1 w5 ⟨rfl,g5⟩
  have g15:=G.trans g14 g5
  have mZ:=G.trans cB g15
  have wQ:Hid (Rec w5 w.heap.size [.float .f64 x,.float .f64 y]):=Rec.G RX.out g15
  have qz:Hid (Rec w5 (w.heap.size+1) [.bool false,.slice none 0 0,.slice none 0 0]):=Rec.G RQ.out g15
  clear HP HQ R0 RX RQ qo g15 g14 g13
  have hlt1:=wQ.out.lt
  have hlt2:=qz.out.lt
  have dG:=Rec.f2 (Rec.G wQ.out (G.refl _))
  have oN:=dG.1
  have oO:=dG.2.1
  have oP:=dG.2.2.1
  have oQ:=dG.2.2.2
  clear dG
  have bP:=Rec.f3 (Rec.G qz.out (G.refl _))
  have oU:=bP.1
  have oV:=bP.2.1
  have oW:=bP.2.2.1
  have oZ:=bP.2.2.2.1
  have p8:=bP.2.2.2.2.1
  have pg:=bP.2.2.2.2.2
  clear bP
  go_wp2_with fail
  have hT:Hid (Rec (World.setCell (World.setCell (World.setCell w5 ⟨w.heap.size+1,0,none⟩ (.bool false)) ⟨w.heap.size+1,1,none⟩ (.slice none 0 0)) ⟨w.heap.size+1,2,none⟩ (.slice none 0 0)) (w.heap.size+1) [.bool false,.slice none 0 0,.slice none 0 0]):=Rec.set3 (Rec.G qz.out (G.refl _))
  have g9:=Rec.g3 (b:=w.heap.size+1) (u:= .bool false) (v:= .slice none 0 0) (x:= .slice none 0 0) (mZ) (by omega)
  generalize (World.setCell (World.setCell (World.setCell w5 ⟨w.heap.size+1,0,none⟩ (.bool false)) ⟨w.heap.size+1,1,none⟩ (.slice none 0 0)) ⟨w.heap.size+1,2,none⟩ (.slice none 0 0))=w9 at *
  have hF:=Rec.f3 (Rec.G hT.out ((G.refl _)))
  have bS:=hF.1
  have bU:=hF.2.1
  have bV:=hF.2.2.1
  have bW:=hF.2.2.2.1
  have il:=hF.2.2.2.2.1
  have iq:=hF.2.2.2.2.2
  clear hF
  have pE:=Rec.lt hT.out
  refine bodyPost_ret (v:= .tuple #[.agg #[.bool false,.slice none 0 0,.slice none 0 0],.int .i64 6]) (by simp [results,Tryz.results105,go_sem, *]) rfl ?_
  exact⟨_,rfl,g9.alloc _,q2s _⟩
 ·rw[h1] at he1
  clear he2 h1
  go_enter Tryz.func105,Tryz.ntmps105
  go_wp2_with fail
  obtain⟨w0,aD,g0,hz0,R0,R1,R2⟩:=q0K w [.float .f64 x,.float .f64 y] [.bool false,.slice none 0 0,.slice none 0 0] [.float .f64 x,.float .f64 y] 54 97 26
  rw[aD]
  clear aD
  refine Calls.mono (P:=Tryz.prog) (HR.out w0 _ g0 (q2M R2.out)) ?_
  intro e1 w1 hs
  obtain⟨v,c,a,rfl,g1,hv⟩:=hs
  rcases hv with ⟨rfl,rfl,-,hv⟩|⟨i,-,-,-,hi1,hi2,-⟩
  case inr=>exact absurd hi2 (fun h=>q3g HFin.out hi1 h)
  have cB:=G.trans g0 g1
  have HV:Hid (NSl w1 v ([x,y].map fz)):=hv
  have RX:Hid (Rec w1 w.heap.size [.float .f64 x,.float .f64 y]):=Rec.G R0.out g1
  have RQ:Hid (Rec w1 (w.heap.size+1) [.bool false,.slice none 0 0,.slice none 0 0]):=Rec.G R1.out g1
  clear R0 R1 R2 HR hv hz0 g1 g0
  have hlt:=RQ.out.lt
  go_wp2_with fail
  obtain⟨w2,aD,g2,hz2,R0⟩:=q0l w1 [.int .i64 0,.int .i64 0] 29
  rw[aD]
  clear aD
  have dJ:=G.trans cB g2
  refine Calls.mono (P:=Tryz.prog) (HT2.out w2 v dJ (NSl.G HV.out g2)) ?_
  intro e1 w3 hs
  obtain⟨p,rfl,g3,hp⟩:=hs
  have HQ:Hid (QIs w3 p q):=hp
  obtain⟨a8,k8,c8,a9,k9,c9,rfl,-,-⟩:=hp
  generalize decide (q.num<0)=t9 at *
  have g13:=G.trans g2 g3
  clear HT2 HV R0 hz2 hlt
  go_wp2_with fail
  obtain⟨w4,aD,g4,qo,R0⟩:=q0l w3 [.bool t9,.slice a8 k8 c8,.slice a9 k9 c9] 97
  rw[aD]
  clear aD
  have g14:=G.trans g13 g4
  refine Calls.mono (P:=Tryz.prog) (HP.out w4 _ (G.trans cB g14) (QIs.G HQ.out g4)) ?_
  rintro e1 w5 ⟨rfl,g5⟩
  have g15:=G.trans g14 g5
  have mZ:=G.trans cB g15
  have wQ:Hid (Rec w5 w.heap.size [.float .f64 x,.float .f64 y]):=Rec.G RX.out g15
  have qz:Hid (Rec w5 (w.heap.size+1) [.bool false,.slice none 0 0,.slice none 0 0]):=Rec.G RQ.out g15
  clear HP HQ R0 RX RQ qo g15 g14 g13
  have hlt1:=wQ.out.lt
  have hlt2:=qz.out.lt
  have dG:=Rec.f2 (Rec.G wQ.out (G.refl _))
  have oN:=dG.1
  have oO:=dG.2.1
  have oP:=dG.2.2.1
  have oQ:=dG.2.2.2
  clear dG
  have bP:=Rec.f3 (Rec.G qz.out (G.refl _))
  have oU:=bP.1
  have oV:=bP.2.1
  have oW:=bP.2.2.1
  have oZ:=bP.2.2.2.1
  have p8:=bP.2.2.2.2.1
  have pg:=bP.2.2.2.2.2
  clear bP
  go_wp2_with fail
  have hT:Hid (Rec (World.setCell (World.setCell (World.setCell w5 ⟨w.heap.size+1,0,none⟩ (.bool false)) ⟨w.heap.size+1,1,none⟩ (.slice none 0 0)) ⟨w.heap.size+1,2,none⟩ (.slice none 0 0)) (w.heap.size+1) [.bool false,.slice none 0 0,.slice none 0 0]):=Rec.set3 (Rec.G qz.out (G.refl _))
  have g9:=Rec.g3 (b:=w.heap.size+1) (u:= .bool false) (v:= .slice none 0 0) (x:= .slice none 0 0) (mZ) (by omega)
  generalize (World.setCell (World.setCell (World.setCell w5 ⟨w.heap.size+1,0,none⟩ (.bool false)) ⟨w.heap.size+1,1,none⟩ (.slice none 0 0)) ⟨w.heap.size+1,2,none⟩ (.slice none 0 0))=w9 at *
  have hF:=Rec.f3 (Rec.G hT.out ((G.refl _)))
  have bS:=hF.1
  have bU:=hF.2.1
  have bV:=hF.2.2.1
  have bW:=hF.2.2.2.1
  have il:=hF.2.2.2.2.1
  have iq:=hF.2.2.2.2.2
  clear hF
  have pE:=Rec.lt hT.out
  refine bodyPost_ret (v:= .tuple #[.agg #[.bool false,.slice none 0 0,.slice none 0 0],.int .i64 6]) (by simp [results,Tryz.results105,go_sem, *]) rfl ?_
  exact⟨_,rfl,g9.alloc _,q2s _⟩
 ·rw[h1] at he1
  rw[h2] at he2
  clear h1 h2
  go_enter Tryz.func105,Tryz.ntmps105
  go_wp2_with fail
  obtain⟨w0,aD,g0,hz0,R0,R1,R2⟩:=q0K w [.float .f64 x,.float .f64 y] [.bool false,.slice none 0 0,.slice none 0 0] [.float .f64 x,.float .f64 y] 54 97 26
  rw[aD]
  clear aD
  refine Calls.mono (P:=Tryz.prog) (HR.out w0 _ g0 (q2M R2.out)) ?_
  intro e1 w1 hs
  obtain⟨v,c,a,rfl,g1,hv⟩:=hs
  rcases hv with ⟨rfl,rfl,-,hv⟩|⟨i,-,-,-,hi1,hi2,-⟩
  case inr=>exact absurd hi2 (fun h=>q3g HFin.out hi1 h)
  have cB:=G.trans g0 g1
  have HV:Hid (NSl w1 v ([x,y].map fz)):=hv
  have RX:Hid (Rec w1 w.heap.size [.float .f64 x,.float .f64 y]):=Rec.G R0.out g1
  have RQ:Hid (Rec w1 (w.heap.size+1) [.bool false,.slice none 0 0,.slice none 0 0]):=Rec.G R1.out g1
  clear R0 R1 R2 HR hv hz0 g1 g0
  have hlt:=RQ.out.lt
  go_wp2_with fail
  obtain⟨w2,aD,g2,hz2,R0⟩:=q0l w1 [.int .i64 0,.int .i64 0] 29
  rw[aD]
  clear aD
  have dJ:=G.trans cB g2
  refine Calls.mono (P:=Tryz.prog) (HT2.out w2 v dJ (NSl.G HV.out g2)) ?_
  intro e1 w3 hs
  obtain⟨p,rfl,g3,hp⟩:=hs
  have HQ:Hid (QIs w3 p q):=hp
  obtain⟨a8,k8,c8,a9,k9,c9,rfl,-,-⟩:=hp
  generalize decide (q.num<0)=t9 at *
  have g13:=G.trans g2 g3
  clear HT2 HV R0 hz2 hlt
  go_wp2_with fail
  obtain⟨w4,aD,g4,qo,R0⟩:=q0l w3 [.bool t9,.slice a8 k8 c8,.slice a9 k9 c9] 97
  rw[aD]
  clear aD
  have g14:=G.trans g13 g4
  refine Calls.mono (P:=Tryz.prog) (HP.out w4 _ (G.trans cB g14) (QIs.G HQ.out g4)) ?_
  rintro e1 w5 ⟨rfl,g5⟩
  have g15:=G.trans g14 g5
  have mZ:=G.trans cB g15
  have wQ:Hid (Rec w5 w.heap.size [.float .f64 x,.float .f64 y]):=Rec.G RX.out g15
  have qz:Hid (Rec w5 (w.heap.size+1) [.bool false,.slice none 0 0,.slice none 0 0]):=Rec.G RQ.out g15
  clear HP HQ R0 RX RQ qo g15 g14 g13
  have hlt1:=wQ.out.lt
  have hlt2:=qz.out.lt
  have dG:=Rec.f2 (Rec.G wQ.out (G.refl _))
  have oN:=dG.1
  have oO:=dG.2.1
  have oP:=dG.2.2.1
  have oQ:=dG.2.2.2
  clear dG
  have bP:=Rec.f3 (Rec.G qz.out (G.refl _))
  have oU:=bP.1
  have oV:=bP.2.1
  have oW:=bP.2.2.1
  have oZ:=bP.2.2.2.1
  have p8:=bP.2.2.2.2.1
  have pg:=bP.2.2.2.2.2
  clear bP
  go_wp2_with fail
  have hT:Hid (Rec (World.setCell (World.setCell (World.setCell w5 ⟨w.heap.size+1,0,none⟩ (.bool false)) ⟨w.heap.size+1,1,none⟩ (.slice none 0 0)) ⟨w.heap.size+1,2,none⟩ (.slice none 0 0)) (w.heap.size+1) [.bool false,.slice none 0 0,.slice none 0 0]):=Rec.set3 (Rec.G qz.out (G.refl _))
  have g9:=Rec.g3 (b:=w.heap.size+1) (u:= .bool false) (v:= .slice none 0 0) (x:= .slice none 0 0) (mZ) (by omega)
  generalize (World.setCell (World.setCell (World.setCell w5 ⟨w.heap.size+1,0,none⟩ (.bool false)) ⟨w.heap.size+1,1,none⟩ (.slice none 0 0)) ⟨w.heap.size+1,2,none⟩ (.slice none 0 0))=w9 at *
  have hF:=Rec.f3 (Rec.G hT.out ((G.refl _)))
  have bS:=hF.1
  have bU:=hF.2.1
  have bV:=hF.2.2.1
  have bW:=hF.2.2.2.1
  have il:=hF.2.2.2.2.1
  have iq:=hF.2.2.2.2.2
  clear hF
  have pE:=Rec.lt hT.out
  refine bodyPost_ret (v:= .tuple #[.agg #[.bool false,.slice none 0 0,.slice none 0 0],.int .i64 6]) (by simp [results,Tryz.results105,go_sem, *]) rfl ?_
  exact⟨_,rfl,g9.alloc _,q2s _⟩
end Go.Proofs.YtljkfjjchkehaaaGreatDoor.EN
namespace Go.Proofs.YtljkfjjchkehaaaGreatDoor.EN
open Go.ChangeShapes Go.WideShapes Go.ChangeAt Go.RowKit
attribute [local go_sem] q0m
set_option maxRecDepth 10000 in
theorem q9w (w:World) (x1 y1 x2 y2:Nat) (fv:Value) (u:Rat) (k:Int) (hk:k≠0)
  (lL:∀ w1,G w w1→Calls Tryz.prog 105 #[.agg #[.float .f64 x1,.float .f64 y1]] w1 (q15 w1 u k)):
  Calls Tryz.prog 60 #[.agg #[.float .f64 x1,.float .f64 y1],.agg #[.float .f64 x2,.float .f64 y2],fv] w fun e w'=>e= .returned (.tuple #[.agg #[.float .f64 0,.float .f64 0],.int .i64 k])∧G w w':=by
 have H1:Hid (∀ w1,G w w1→_):=lL
 have hk0:(k != 0)=true:=by simpa using hk
 clear lL hk
 go_enter Tryz.func60,Tryz.ntmps60
 go_wp2_with fail
 obtain⟨w0,aD,g0,hz0,R0,R1,R2⟩:=q0K w [.float .f64 x1,.float .f64 y1] [.float .f64 x2,.float .f64 y2] [.float .f64 0,.float .f64 0] 54 54 54
 rw[aD]
 clear aD
 refine Calls.mono (P:=Tryz.prog) (H1.out w0 g0) ?_
 intro e1 w1 hs
 obtain⟨p,rfl,g1,hp⟩:=hs
 have uy:Hid (QIs w1 p u):=hp
 obtain⟨a8,k8,c8,a9,k9,c9,rfl,-,-⟩:=hp
 generalize decide (u.num<0)=t9 at *
 have cB:=G.trans g0 g1
 have RB:Hid (Rec w1 (w.heap.size+1) [.float .f64 x2,.float .f64 y2]):=Rec.G R1.out g1
 have RR:Hid (Rec w1 (w.heap.size+1+1) [.float .f64 0,.float .f64 0]):=Rec.G R2.out g1
 clear H1 R0 R1 R2 hz0 g0 g1
 clear uy RB
 have wX:Hid (Rec w1 (w.heap.size+1+1) [.float .f64 0,.float .f64 0]):=Rec.G RR.out (G.refl _)
 have hlt:=wX.out.lt
 have fu:=Rec.f2 (Rec.G wX.out (G.refl _))
 have tC:=fu.1
 have tF:=fu.2.1
 have tH:=fu.2.2.1
 have tJ:=fu.2.2.2
 clear fu
 go_wp2_with fail
 have hT:Hid (Rec (World.setCell (World.setCell w1 ⟨w.heap.size+1+1,0,none⟩ (.float .f64 0)) ⟨w.heap.size+1+1,1,none⟩ (.float .f64 0)) (w.heap.size+1+1) [.float .f64 0,.float .f64 0]):=Rec.set2 (Rec.G wX.out (G.refl _))
 have g9:=Rec.g2 (b:=w.heap.size+1+1) (u:= .float .f64 0) (v:= .float .f64 0) (cB) (by omega)
 generalize (World.setCell (World.setCell w1 ⟨w.heap.size+1+1,0,none⟩ (.float .f64 0)) ⟨w.heap.size+1+1,1,none⟩ (.float .f64 0))=w9 at *
 have hF:=Rec.f2 (Rec.G hT.out ((G.refl _)))
 have bS:=hF.1
 have bU:=hF.2.1
 have bV:=hF.2.2.1
 have bW:=hF.2.2.2
 clear hF
 have pE:=Rec.lt hT.out
 refine bodyPost_ret (v:= .tuple #[.agg #[.float .f64 0,.float .f64 0],.int .i64 k]) (by simp [results,Tryz.results60,go_sem, *]) rfl ?_
 exact⟨rfl,g9.alloc _⟩
set_option maxRecDepth 10000 in
theorem q9e (w:World) (x1 y1 x2 y2:Nat) (fv:Value) (u v:Rat) (k:Int) (hk:k≠0)
  (lL:∀ w1,G w w1→Calls Tryz.prog 105 #[.agg #[.float .f64 x1,.float .f64 y1]] w1 (q15 w1 u 0))
  (nN:∀ w1,G w w1→Calls Tryz.prog 105 #[.agg #[.float .f64 x2,.float .f64 y2]] w1 (q15 w1 v k)):
  Calls Tryz.prog 60 #[.agg #[.float .f64 x1,.float .f64 y1],.agg #[.float .f64 x2,.float .f64 y2],fv] w fun e w'=>e= .returned (.tuple #[.agg #[.float .f64 0,.float .f64 0],.int .i64 k])∧G w w':=by
 have H1:Hid (∀ w1,G w w1→_):=lL
 have H2:Hid (∀ w1,G w w1→_):=nN
 have hk0:(k != 0)=true:=by simpa using hk
 clear lL nN hk
 go_enter Tryz.func60,Tryz.ntmps60
 go_wp2_with fail
 obtain⟨w0,aD,g0,hz0,R0,R1,R2⟩:=q0K w [.float .f64 x1,.float .f64 y1] [.float .f64 x2,.float .f64 y2] [.float .f64 0,.float .f64 0] 54 54 54
 rw[aD]
 clear aD
 refine Calls.mono (P:=Tryz.prog) (H1.out w0 g0) ?_
 intro e1 w1 hs
 obtain⟨p,rfl,g1,hp⟩:=hs
 have uy:Hid (QIs w1 p u):=hp
 obtain⟨a8,k8,c8,a9,k9,c9,rfl,-,-⟩:=hp
 generalize decide (u.num<0)=t9 at *
 have cB:=G.trans g0 g1
 have RB:Hid (Rec w1 (w.heap.size+1) [.float .f64 x2,.float .f64 y2]):=Rec.G R1.out g1
 have RR:Hid (Rec w1 (w.heap.size+1+1) [.float .f64 0,.float .f64 0]):=Rec.G R2.out g1
 clear H1 R0 R1 R2 hz0 g0 g1
 have hlt:=RB.out.lt
 have fU:=Rec.f2 (Rec.G RB.out (G.refl _))
 have kv:=fU.1
 have ky:=fU.2.1
 have kz:=fU.2.2.1
 have kC:=fU.2.2.2
 clear fU
 go_wp2_with fail
 clear kv ky kz kC
 obtain⟨w2,aD,g2,hz2,R0⟩:=q0l w1 [.bool t9,.slice a8 k8 c8,.slice a9 k9 c9] 97
 rw[aD]
 clear aD
 have dJ:=G.trans cB g2
 refine Calls.mono (P:=Tryz.prog) (H2.out w2 dJ) ?_
 intro e1 w3 hs
 obtain⟨q,rfl,g3,hq⟩:=hs
 have xz:Hid (QIs w3 q v):=hq
 obtain⟨a6,k6,c6,a7,k7,c7,rfl,-,-⟩:=hq
 generalize decide (v.num<0)=t7 at *
 have R3:Hid (Rec w3 w1.heap.size [.bool t9,.slice a8 k8 c8,.slice a9 k9 c9]):=Rec.G R0.out g3
 have nZ:Hid (QIs w3 (.agg #[.bool t9,.slice a8 k8 c8,.slice a9 k9 c9]) u):=QIs.G uy.out (G.trans g2 g3)
 have g13:=G.trans g2 g3
 clear H2 uy R0 RB hlt hz2
 clear nZ xz R3
 have wX:Hid (Rec w3 (w.heap.size+1+1) [.float .f64 0,.float .f64 0]):=Rec.G RR.out (g13)
 have hlt:=wX.out.lt
 have fu:=Rec.f2 (Rec.G wX.out (G.refl _))
 have tC:=fu.1
 have tF:=fu.2.1
 have tH:=fu.2.2.1
 have tJ:=fu.2.2.2
 clear fu
 go_wp2_with fail
 have hT:Hid (Rec (World.setCell (World.setCell w3 ⟨w.heap.size+1+1,0,none⟩ (.float .f64 0)) ⟨w.heap.size+1+1,1,none⟩ (.float .f64 0)) (w.heap.size+1+1) [.float .f64 0,.float .f64 0]):=Rec.set2 (Rec.G wX.out (G.refl _))
 have g9:=Rec.g2 (b:=w.heap.size+1+1) (u:= .float .f64 0) (v:= .float .f64 0) (G.trans cB g13) (by omega)
 generalize (World.setCell (World.setCell w3 ⟨w.heap.size+1+1,0,none⟩ (.float .f64 0)) ⟨w.heap.size+1+1,1,none⟩ (.float .f64 0))=w9 at *
 have hF:=Rec.f2 (Rec.G hT.out ((G.refl _)))
 have bS:=hF.1
 have bU:=hF.2.1
 have bV:=hF.2.2.1
 have bW:=hF.2.2.2
 clear hF
 have pE:=Rec.lt hT.out
 refine bodyPost_ret (v:= .tuple #[.agg #[.float .f64 0,.float .f64 0],.int .i64 k]) (by simp [results,Tryz.results60,go_sem, *]) rfl ?_
 exact⟨rfl,g9.alloc _⟩
set_option maxRecDepth 10000 in
theorem q6P (w:World) (x1 y1 x2 y2 FR:Nat) (kI:Array Value) (u v r:Rat) (k:Int) (hk:k≠0)
  (lL:∀ w1,G w w1→Calls Tryz.prog 105 #[.agg #[.float .f64 x1,.float .f64 y1]] w1 (q15 w1 u 0))
  (nN:∀ w1,G w w1→Calls Tryz.prog 105 #[.agg #[.float .f64 x2,.float .f64 y2]] w1 (q15 w1 v 0))
  (HB:∀ w1 a c,G w w1→QIs w1 a u→QIs w1 c v→Calls Tryz.prog FR (#[a,c]++kI) w1 (q15 w1 r k))
  (HE:∀ args w,(callFunc FR args).run Tryz.prog w= .ok (.enter FR args) w):
  Calls Tryz.prog 60 #[.agg #[.float .f64 x1,.float .f64 y1],.agg #[.float .f64 x2,.float .f64 y2],.func (.func FR) #[] kI] w fun e w'=>e= .returned (.tuple #[.agg #[.float .f64 0,.float .f64 0],.int .i64 k])∧G w w':=by
 have H1:Hid (∀ w1,G w w1→_):=lL
 have H2:Hid (∀ w1,G w w1→_):=nN
 have H3:Hid (∀ w1 a c,G w w1→QIs w1 a u→QIs w1 c v→_):=HB
 have hk0:(k != 0)=true:=by simpa using hk
 clear lL nN HB hk
 go_enter Tryz.func60,Tryz.ntmps60
 go_wp2_with fail
 obtain⟨w0,aD,g0,hz0,R0,R1,R2⟩:=q0K w [.float .f64 x1,.float .f64 y1] [.float .f64 x2,.float .f64 y2] [.float .f64 0,.float .f64 0] 54 54 54
 rw[aD]
 clear aD
 refine Calls.mono (P:=Tryz.prog) (H1.out w0 g0) ?_
 intro e1 w1 hs
 obtain⟨p,rfl,g1,hp⟩:=hs
 have uy:Hid (QIs w1 p u):=hp
 obtain⟨a8,k8,c8,a9,k9,c9,rfl,-,-⟩:=hp
 generalize decide (u.num<0)=t9 at *
 have cB:=G.trans g0 g1
 have RB:Hid (Rec w1 (w.heap.size+1) [.float .f64 x2,.float .f64 y2]):=Rec.G R1.out g1
 have RR:Hid (Rec w1 (w.heap.size+1+1) [.float .f64 0,.float .f64 0]):=Rec.G R2.out g1
 clear H1 R0 R1 R2 hz0 g0 g1
 have hlt:=RB.out.lt
 have fU:=Rec.f2 (Rec.G RB.out (G.refl _))
 have kv:=fU.1
 have ky:=fU.2.1
 have kz:=fU.2.2.1
 have kC:=fU.2.2.2
 clear fU
 go_wp2_with fail
 clear kv ky kz kC
 obtain⟨w2,aD,g2,hz2,R0⟩:=q0l w1 [.bool t9,.slice a8 k8 c8,.slice a9 k9 c9] 97
 rw[aD]
 clear aD
 have dJ:=G.trans cB g2
 refine Calls.mono (P:=Tryz.prog) (H2.out w2 dJ) ?_
 intro e1 w3 hs
 obtain⟨q,rfl,g3,hq⟩:=hs
 have xz:Hid (QIs w3 q v):=hq
 obtain⟨a6,k6,c6,a7,k7,c7,rfl,-,-⟩:=hq
 generalize decide (v.num<0)=t7 at *
 have R3:Hid (Rec w3 w1.heap.size [.bool t9,.slice a8 k8 c8,.slice a9 k9 c9]):=Rec.G R0.out g3
 have nZ:Hid (QIs w3 (.agg #[.bool t9,.slice a8 k8 c8,.slice a9 k9 c9]) u):=QIs.G uy.out (G.trans g2 g3)
 have g13:=G.trans g2 g3
 clear H2 uy R0 RB hlt hz2
 have hlt3:=R3.out.lt
 have fV:=Rec.f3 (Rec.G R3.out (G.refl _))
 have mJ:=fV.1
 have mK:=fV.2.1
 have mM:=fV.2.2.1
 have mO:=fV.2.2.2.1
 have mP:=fV.2.2.2.2.1
 have mQ:=fV.2.2.2.2.2
 clear fV
 go_wp2_with fail
 clear mJ mK mM mO mP mQ hlt3 HE R3
 obtain⟨w4,aD,g4,qo,R0⟩:=q0l w3 [.bool t7,.slice a6 k6 c6,.slice a7 k7 c7] 97
 rw[aD]
 clear aD
 have g14:=G.trans g13 g4
 refine Calls.mono (P:=Tryz.prog) (H3.out w4 _ _ (G.trans cB g14) (QIs.G nZ.out g4) (QIs.G xz.out g4)) ?_
 intro e1 w5 hs
 obtain⟨s,rfl,g5,hs5⟩:=hs
 have HS:Hid (QIs w5 s r):=hs5
 obtain⟨a4,k4,c4,a5,k5,c5,rfl,-,-⟩:=hs5
 generalize decide (r.num<0)=t5 at *
 have g15:=G.trans g14 g5
 clear H3 nZ xz R0 qo
 clear HS
 have wX:Hid (Rec w5 (w.heap.size+1+1) [.float .f64 0,.float .f64 0]):=Rec.G RR.out (g15)
 have hlt:=wX.out.lt
 have fu:=Rec.f2 (Rec.G wX.out (G.refl _))
 have tC:=fu.1
 have tF:=fu.2.1
 have tH:=fu.2.2.1
 have tJ:=fu.2.2.2
 clear fu
 go_wp2_with fail
 have hT:Hid (Rec (World.setCell (World.setCell w5 ⟨w.heap.size+1+1,0,none⟩ (.float .f64 0)) ⟨w.heap.size+1+1,1,none⟩ (.float .f64 0)) (w.heap.size+1+1) [.float .f64 0,.float .f64 0]):=Rec.set2 (Rec.G wX.out (G.refl _))
 have g9:=Rec.g2 (b:=w.heap.size+1+1) (u:= .float .f64 0) (v:= .float .f64 0) (G.trans cB g15) (by omega)
 generalize (World.setCell (World.setCell w5 ⟨w.heap.size+1+1,0,none⟩ (.float .f64 0)) ⟨w.heap.size+1+1,1,none⟩ (.float .f64 0))=w9 at *
 have hF:=Rec.f2 (Rec.G hT.out ((G.refl _)))
 have bS:=hF.1
 have bU:=hF.2.1
 have bV:=hF.2.2.1
 have bW:=hF.2.2.2
 clear hF
 have pE:=Rec.lt hT.out
 refine bodyPost_ret (v:= .tuple #[.agg #[.float .f64 0,.float .f64 0],.int .i64 k]) (by simp [results,Tryz.results60,go_sem, *]) rfl ?_
 exact⟨rfl,g9.alloc _⟩
set_option maxRecDepth 10000 in
theorem q5a (w:World) (x1 y1 x2 y2 b d FR:Nat) (kI:Array Value) (u v r:Rat) (k:Int)
  (lL:∀ w1,G w w1→Calls Tryz.prog 105 #[.agg #[.float .f64 x1,.float .f64 y1]] w1 (q15 w1 u 0))
  (nN:∀ w1,G w w1→Calls Tryz.prog 105 #[.agg #[.float .f64 x2,.float .f64 y2]] w1 (q15 w1 v 0))
  (HB:∀ w1 a c,G w w1→QIs w1 a u→QIs w1 c v→Calls Tryz.prog FR (#[a,c]++kI) w1 (q15 w1 r 0))
  (HE:∀ args w,(callFunc FR args).run Tryz.prog w= .ok (.enter FR args) w)
  (HP:∀ w1 a,G w w1→QIs w1 a r→Calls Tryz.prog 106 #[a] w1 fun e w'=>e= .returned (.tuple #[.agg #[.float .f64 b,.float .f64 d],.int .i64 k])∧G w1 w'):
  Calls Tryz.prog 60 #[.agg #[.float .f64 x1,.float .f64 y1],.agg #[.float .f64 x2,.float .f64 y2],.func (.func FR) #[] kI] w fun e w'=>e= .returned (.tuple #[.agg #[.float .f64 b,.float .f64 d],.int .i64 k])∧G w w':=by
 have H1:Hid (∀ w1,G w w1→_):=lL
 have H2:Hid (∀ w1,G w w1→_):=nN
 have H3:Hid (∀ w1 a c,G w w1→QIs w1 a u→QIs w1 c v→_):=HB
 have H4:Hid (∀ w1 a,G w w1→QIs w1 a r→_):=HP
 clear lL nN HB HP
 go_enter Tryz.func60,Tryz.ntmps60
 go_wp2_with fail
 obtain⟨w0,aD,g0,hz0,R0,R1,R2⟩:=q0K w [.float .f64 x1,.float .f64 y1] [.float .f64 x2,.float .f64 y2] [.float .f64 0,.float .f64 0] 54 54 54
 rw[aD]
 clear aD
 refine Calls.mono (P:=Tryz.prog) (H1.out w0 g0) ?_
 intro e1 w1 hs
 obtain⟨p,rfl,g1,hp⟩:=hs
 have uy:Hid (QIs w1 p u):=hp
 obtain⟨a8,k8,c8,a9,k9,c9,rfl,-,-⟩:=hp
 generalize decide (u.num<0)=t9 at *
 have cB:=G.trans g0 g1
 have RB:Hid (Rec w1 (w.heap.size+1) [.float .f64 x2,.float .f64 y2]):=Rec.G R1.out g1
 have RR:Hid (Rec w1 (w.heap.size+1+1) [.float .f64 0,.float .f64 0]):=Rec.G R2.out g1
 clear H1 R0 R1 R2 hz0 g0 g1
 have hlt:=RB.out.lt
 have fU:=Rec.f2 (Rec.G RB.out (G.refl _))
 have kv:=fU.1
 have ky:=fU.2.1
 have kz:=fU.2.2.1
 have kC:=fU.2.2.2
 clear fU
 go_wp2_with fail
 clear kv ky kz kC
 obtain⟨w2,aD,g2,hz2,R0⟩:=q0l w1 [.bool t9,.slice a8 k8 c8,.slice a9 k9 c9] 97
 rw[aD]
 clear aD
 have dJ:=G.trans cB g2
 refine Calls.mono (P:=Tryz.prog) (H2.out w2 dJ) ?_
 intro e1 w3 hs
 obtain⟨q,rfl,g3,hq⟩:=hs
 have xz:Hid (QIs w3 q v):=hq
 obtain⟨a6,k6,c6,a7,k7,c7,rfl,-,-⟩:=hq
 generalize decide (v.num<0)=t7 at *
 have R3:Hid (Rec w3 w1.heap.size [.bool t9,.slice a8 k8 c8,.slice a9 k9 c9]):=Rec.G R0.out g3
 have nZ:Hid (QIs w3 (.agg #[.bool t9,.slice a8 k8 c8,.slice a9 k9 c9]) u):=QIs.G uy.out (G.trans g2 g3)
 have g13:=G.trans g2 g3
 clear H2 uy R0 RB hlt hz2
 have hlt3:=R3.out.lt
 have fV:=Rec.f3 (Rec.G R3.out (G.refl _))
 have mJ:=fV.1
 have mK:=fV.2.1
 have mM:=fV.2.2.1
 have mO:=fV.2.2.2.1
 have mP:=fV.2.2.2.2.1
 have mQ:=fV.2.2.2.2.2
 clear fV
 go_wp2_with fail
 clear mJ mK mM mO mP mQ hlt3 HE R3
 obtain⟨w4,aD,g4,qo,R0⟩:=q0l w3 [.bool t7,.slice a6 k6 c6,.slice a7 k7 c7] 97
 rw[aD]
 clear aD
 have g14:=G.trans g13 g4
 refine Calls.mono (P:=Tryz.prog) (H3.out w4 _ _ (G.trans cB g14) (QIs.G nZ.out g4) (QIs.G xz.out g4)) ?_
 intro e1 w5 hs
 obtain⟨s,rfl,g5,hs5⟩:=hs
 have HS:Hid (QIs w5 s r):=hs5
 obtain⟨a4,k4,c4,a5,k5,c5,rfl,-,-⟩:=hs5
 generalize decide (r.num<0)=t5 at *
 have g15:=G.trans g14 g5
 clear H3 nZ xz R0 qo
 go_wp2_with fail
 obtain⟨w6,aD,g6,Ms,R0⟩:=q0l w5 [.bool t5,.slice a4 k4 c4,.slice a5 k5 c5] 97
 rw[aD]
 clear aD
 have g16:=G.trans g15 g6
 refine Calls.mono (P:=Tryz.prog) (H4.out w6 _ (G.trans cB g16) (QIs.G HS.out g6)) ?_
 rintro e1 w7 ⟨rfl,g7⟩
 have g17:=G.trans g16 g7
 clear H4 HS R0 Ms
 have cu:=Rec.f2 (Rec.G RR.out (g17))
 have iP:=cu.1
 have iQ:=cu.2.1
 have iR:=cu.2.2.1
 have iT:=cu.2.2.2
 clear cu
 go_wp2_with fail
 have hT:Hid (Rec (World.setCell (World.setCell w7 ⟨w.heap.size+1+1,0,none⟩ (.float .f64 b)) ⟨w.heap.size+1+1,1,none⟩ (.float .f64 d)) (w.heap.size+1+1) [.float .f64 b,.float .f64 d]):=Rec.set2 (Rec.G RR.out (g17))
 have g9:=Rec.g2 (b:=w.heap.size+1+1) (u:= .float .f64 b) (v:= .float .f64 d) (G.trans cB g17) (by omega)
 generalize (World.setCell (World.setCell w7 ⟨w.heap.size+1+1,0,none⟩ (.float .f64 b)) ⟨w.heap.size+1+1,1,none⟩ (.float .f64 d))=w9 at *
 have hF:=Rec.f2 (Rec.G hT.out ((G.refl _)))
 have bS:=hF.1
 have bU:=hF.2.1
 have bV:=hF.2.2.1
 have bW:=hF.2.2.2
 clear hF
 refine bodyPost_ret (v:= .tuple #[.agg #[.float .f64 b,.float .f64 d],.int .i64 k]) (by simp [results,Tryz.results60,go_sem, *]) rfl ?_
 exact⟨rfl,g9⟩
end Go.Proofs.YtljkfjjchkehaaaGreatDoor.EN
namespace Go.Proofs.YtljkfjjchkehaaaGreatDoor.EN
open Go.ChangeShapes Go.WideShapes Go.ChangeAt Go.RowKit
attribute [local go_sem] q0m
set_option maxRecDepth 10000 in
theorem qcw (w:World) (b F:Nat) (x y:Value) (u v r:Rat) (hx:QIs w x u) (hy:QIs w y v) (hb:b<w.heap.size) (hr:w.cell? ⟨b,0,none⟩=some (.func (.func F) #[] #[]))
  (HD:∀ w1 a c,G w w1→QIs w1 a u→QIs w1 c v→Calls Tryz.prog F #[a,c] w1 (RetQ w1 r))
  (HE:∀ args w,(callFunc F args).run Tryz.prog w= .ok (.enter F args) w):
  Calls Tryz.prog 107 #[x,y,.pointer (some ⟨b,0,none⟩)] w (q15 w r 0):=by
 have H1:Hid (∀ w1 a c,G w w1→QIs w1 a u→QIs w1 c v→_):=HD
 have HX:Hid (QIs w x u):=hx
 have HY:Hid (QIs w y v):=hy
 obtain⟨a8,k8,c8,a9,k9,c9,rfl,-,-⟩:=hx
 obtain⟨a6,k6,c6,a7,k7,c7,rfl,-,-⟩:=hy
 generalize decide (u.num<0)=t9 at *
 generalize decide (v.num<0)=t7 at *
 clear HD
 have Sy:=G.cell (p:=⟨b,0,none⟩) ((((G.refl w).alloc (.cells #[.bool t9,.slice a8 k8 c8,.slice a9 k9 c9] 97)).alloc (.cells #[.bool t7,.slice a6 k6 c6,.slice a7 k7 c7] 97)).alloc (.cells #[.bool false,.slice none 0 0,.slice none 0 0] 97)) hb hr
 go_enter Tryz.func107,Tryz.ntmps107
 go_wp2_with fail
 clear hr HE hb Sy
 obtain⟨w0,aD,g0,hz0,R0,R1,R2⟩:=q0K w [.bool t9,.slice a8 k8 c8,.slice a9 k9 c9] [.bool t7,.slice a6 k6 c6,.slice a7 k7 c7] [.bool false,.slice none 0 0,.slice none 0 0] 97 97 97
 rw[aD]
 clear aD
 refine Calls.mono (P:=Tryz.prog) (H1.out w0 _ _ g0 (QIs.G HX.out g0) (QIs.G HY.out g0)) ?_
 intro e1 w1 hs
 obtain⟨v21,rfl,g1,h21⟩:=hs
 have RR:Hid (Rec w1 (w.heap.size+1+1) [.bool false,.slice none 0 0,.slice none 0 0]):=Rec.G R2.out g1
 clear H1 HX HY R0 R1 R2 hz0
 obtain⟨a8,k8,c8,a9,k9,c9,rfl,kH,fe⟩:=h21
 have lK:Hid (Num w1 (.slice a8 k8 c8) (r).num.natAbs):=kH
 have jg:Hid (Num w1 (.slice a9 k9 c9) (q1T (r).den)):=fe
 obtain⟨t9,dM⟩:∃ t,t=decide ((r).num<0):=⟨_,rfl⟩
 rw[← dM]
 have jR:Hid (t9=decide ((r).num<0)):=dM
 clear kH fe dM
 have hS:=Rec.f3 (Rec.G RR.out ((G.refl _)))
 have dQ:=hS.1
 have dR:=hS.2.1
 have dS:=hS.2.2.1
 have dU:=hS.2.2.2.1
 have iX:=hS.2.2.2.2.1
 have iY:=hS.2.2.2.2.2
 clear hS
 have gX:Num _ _ _:=q0o (u1:= .bool t9) (u2:= .slice a8 k8 c8) (u3:= .slice a9 k9 c9) lK.out (Rec.G RR.out (G.refl _)) trivial trivial trivial
 have dD:Num _ _ _:=q0o (u1:= .bool t9) (u2:= .slice a8 k8 c8) (u3:= .slice a9 k9 c9) jg.out (Rec.G RR.out (G.refl _)) trivial trivial trivial
 go_wp2_with fail
 have hT:Hid (Rec (World.setCell (World.setCell (World.setCell w1 ⟨w.heap.size+1+1,0,none⟩ (.bool t9)) ⟨w.heap.size+1+1,1,none⟩ (.slice a8 k8 c8)) ⟨w.heap.size+1+1,2,none⟩ (.slice a9 k9 c9)) (w.heap.size+1+1) [.bool t9,.slice a8 k8 c8,.slice a9 k9 c9]):=Rec.set3 (Rec.G RR.out (G.refl _))
 have g9:=Rec.g3 (b:=w.heap.size+1+1) (u:= .bool t9) (v:= .slice a8 k8 c8) (x:= .slice a9 k9 c9) (G.trans g0 g1) (by omega)
 generalize (World.setCell (World.setCell (World.setCell w1 ⟨w.heap.size+1+1,0,none⟩ (.bool t9)) ⟨w.heap.size+1+1,1,none⟩ (.slice a8 k8 c8)) ⟨w.heap.size+1+1,2,none⟩ (.slice a9 k9 c9))=w9 at *
 have hF:=Rec.f3 (Rec.G hT.out ((G.refl _)))
 have bS:=hF.1
 have bU:=hF.2.1
 have bV:=hF.2.2.1
 have bW:=hF.2.2.2.1
 have il:=hF.2.2.2.2.1
 have iq:=hF.2.2.2.2.2
 clear hF
 refine bodyPost_ret (v:= .tuple #[.agg #[.bool t9,.slice a8 k8 c8,.slice a9 k9 c9],.int .i64 0]) (by simp [results,Tryz.results107,go_sem, *]) rfl ?_
 exact⟨_,rfl,g9,a8,k8,c8,a9,k9,c9,by rw[← jR.out],gX,dD⟩
/-- A function without an error, made one with: it holds the function in a cell. -/
def FnIs (F:Nat) (w:World) (v:Value):Prop:=∃ b,v= .func (.func 107) #[] #[.pointer (some ⟨b,0,none⟩)]∧b<w.heap.size∧w.cell? ⟨b,0,none⟩=some (.func (.func F) #[] #[])
theorem FnIs.G {F:Nat} {w w':World} {v:Value} (h:FnIs F w v) (g:G w w'):FnIs F w' v:=by
 obtain⟨b,e,h1,h2⟩:=h
 exact⟨b,e,G.lt g h1,g.cell (p:=⟨b,0,none⟩) h1 h2⟩
theorem q4g (w:World) (F:Nat):
  Calls Tryz.prog 61 #[.func (.func F) #[] #[]] w fun e w'=>∃ u,e= .returned u∧G w w'∧FnIs F w' u:=by
 go_enter Tryz.func61,Tryz.ntmps61
 go_wp2_with fail
 go_ret
 exact⟨_,rfl,(G.refl _).alloc _,_,rfl,by simp,by simp [go_sem]⟩
set_option maxRecDepth 10000 in
theorem q9D (w:World) (x1 y1 x2 y2 b d:Nat) (k:Int)
  (HR:∀ w1 v,G w w1→FnIs 62 w1 v→Calls Tryz.prog 60 #[.agg #[.float .f64 x1,.float .f64 y1],.agg #[.float .f64 x2,.float .f64 y2],v] w1 fun e w'=>e= .returned (.tuple #[.agg #[.float .f64 b,.float .f64 d],.int .i64 k])∧G w1 w'):
  Calls Tryz.prog 25 #[.agg #[.float .f64 x1,.float .f64 y1],.agg #[.float .f64 x2,.float .f64 y2]] w fun e w'=>e= .returned (.tuple #[.agg #[.float .f64 b,.float .f64 d],.int .i64 k])∧G w w':=by
 have H1:Hid (∀ w1 v,G w w1→FnIs 62 w1 v→_):=HR
 clear HR
 go_enter Tryz.func25,Tryz.ntmps25
 go_wp2_with fail
 obtain⟨w0,aD,g0,hz0,R0,R1,R2⟩:=q0K w [.float .f64 x1,.float .f64 y1] [.float .f64 x2,.float .f64 y2] [.float .f64 0,.float .f64 0] 54 54 54
 rw[aD]
 clear aD
 refine q09 6 2 #[true,true,true,true,true,true,false,false] [.is (.agg #[.float .f64 x1,.float .f64 y1]),.is (.agg #[.float .f64 x2,.float .f64 y2]),.any (fun v w'=>FnIs 62 w' v),.is (.tuple #[.agg #[.float .f64 b,.float .f64 d],.int .i64 k]),.is (.agg #[.float .f64 b,.float .f64 d]),.is (.int .i64 k)] [some 6,some 7,some 8,some 9,some 10,some 11] (by kernel_rfl) (by kernel_rfl) rfl (by kernel_rfl) (by repeat (first|exact trivial|refine⟨fun _ _ _ g h=>by first|exact h.G g|exact fun w3 g3=>h w3 (G.trans g g3),?_⟩)) (by kernel_rfl) (by kernel_rfl) ?_
 refine Letters.is ?_
 refine Letters.is ?_
 refine Letters.any fun v2=> ?_
 refine Letters.is ?_
 refine Letters.is ?_
 refine Letters.is ?_
 refine Letters.nil ?_
 intro A hA
 simp only[q19,Act.put,List.setIfInBounds_toArray,List.set_cons_zero,List.set_cons_succ] at hA
 subst hA
 refine⟨?_,?_⟩
 ·skip
  refine Eaches.cons rfl ?jh (Eaches.cons rfl ?jH (Eaches.cons rfl ?jI (Eaches.cons rfl ?jS (Eaches.cons rfl ?l7 (Eaches.cons rfl ?l8 (Eaches.nil))))))
  case l7|l8=>
   intro W hW hD K hK
   clear hD
   go_simp
   exact hK.out _ _ ⟨_,rfl,G.refl _,rfl⟩
  case jh|jH=>
   intro W hW hD K hK
   clear hD
   have hR0:=Rec.f2 (Rec.G R0.out hW)
   have ji:=hR0.1
   have jk:=hR0.2.1
   clear hR0
   have l9:=Rec.f2 (Rec.G R1.out hW)
   have pQ:=l9.1
   have pR:=l9.2.1
   clear l9
   go_simp
   exact hK.out _ _ ⟨_,rfl,G.refl _,rfl⟩
  ·intro W hW hD K hK
   clear hD
   go_simp
   go_wp2_with (go_at_call 61;refine Calls.mono (P:=Tryz.prog) (q4g W 62) ?_;intro e w9 hs;obtain⟨u9,rfl,g9,bL⟩:=hs)
   exact hK.out _ _ ⟨_,rfl,g9,bL⟩
  ·intro W hW hD K hK
   have h2:=Deps.get (v:=v2) 2 hD rfl rfl (by kernel_rfl)
   clear hD
   go_simp
   go_wp2_with (go_at_call 60;refine Calls.mono (P:=Tryz.prog) (H1.out W v2 (G.trans g0 hW) h2) ?_;intro e w9 hs;obtain⟨rfl,g9⟩:=hs)
   exact hK.out _ _ ⟨_,rfl,g9,rfl⟩
 intro w1 g1 hH
 clear hH
 have RR:Hid (Rec w1 (w.heap.size+1+1) [.float .f64 0,.float .f64 0]):=Rec.G R2.out g1
 clear H1 R0 R1 R2 hz0
 have cu:=Rec.f2 (Rec.G RR.out (G.refl _))
 have iP:=cu.1
 have iQ:=cu.2.1
 have iR:=cu.2.2.1
 have iT:=cu.2.2.2
 clear cu
 refine wpAny_ready (rs:=[6]) (by kernel_rfl) (by simp) ?_
 refine AllReady.cons rfl (fun K hK=> ?_) AllReady.nil
 go_simp
 refine hK _ _ ?_
 clear hK K iP iQ iR iT
 refine wpAny_ready (rs:=[7]) (by kernel_rfl) (by simp) ?_
 refine AllReady.cons rfl (fun K hK=> ?_) AllReady.nil
 go_simp
 refine hK _ _ ?_
 clear hK K
 refine wpAny_done (by kernel_rfl) ?_ _
 go_wp2_with fail
 have hT:Hid (Rec (World.setCell (World.setCell w1 ⟨w.heap.size+1+1,0,none⟩ (.float .f64 b)) ⟨w.heap.size+1+1,1,none⟩ (.float .f64 d)) (w.heap.size+1+1) [.float .f64 b,.float .f64 d]):=Rec.set2 (Rec.G RR.out (G.refl _))
 have g9:=Rec.g2 (b:=w.heap.size+1+1) (u:= .float .f64 b) (v:= .float .f64 d) (G.trans g0 g1) (by omega)
 generalize (World.setCell (World.setCell w1 ⟨w.heap.size+1+1,0,none⟩ (.float .f64 b)) ⟨w.heap.size+1+1,1,none⟩ (.float .f64 d))=w9 at *
 have hF:=Rec.f2 (Rec.G hT.out ((G.refl _)))
 have bS:=hF.1
 have bU:=hF.2.1
 have bV:=hF.2.2.1
 have bW:=hF.2.2.2
 clear hF
 refine bodyPost_ret (v:= .tuple #[.agg #[.float .f64 b,.float .f64 d],.int .i64 k]) (by simp [results,Tryz.results25,go_sem, *]) rfl ?_
 exact⟨rfl,g9⟩
set_option maxRecDepth 10000 in
theorem q9K (w:World) (x1 y1 x2 y2 b d:Nat) (k:Int)
  (HR:∀ w1 v,G w w1→FnIs 63 w1 v→Calls Tryz.prog 60 #[.agg #[.float .f64 x1,.float .f64 y1],.agg #[.float .f64 x2,.float .f64 y2],v] w1 fun e w'=>e= .returned (.tuple #[.agg #[.float .f64 b,.float .f64 d],.int .i64 k])∧G w1 w'):
  Calls Tryz.prog 26 #[.agg #[.float .f64 x1,.float .f64 y1],.agg #[.float .f64 x2,.float .f64 y2]] w fun e w'=>e= .returned (.tuple #[.agg #[.float .f64 b,.float .f64 d],.int .i64 k])∧G w w':=by
 have H1:Hid (∀ w1 v,G w w1→FnIs 63 w1 v→_):=HR
 clear HR
 go_enter Tryz.func26,Tryz.ntmps26
 go_wp2_with fail
 obtain⟨w0,aD,g0,hz0,R0,R1,R2⟩:=q0K w [.float .f64 x1,.float .f64 y1] [.float .f64 x2,.float .f64 y2] [.float .f64 0,.float .f64 0] 54 54 54
 rw[aD]
 clear aD
 refine q09 6 2 #[true,true,true,true,true,true,false,false] [.is (.agg #[.float .f64 x1,.float .f64 y1]),.is (.agg #[.float .f64 x2,.float .f64 y2]),.any (fun v w'=>FnIs 63 w' v),.is (.tuple #[.agg #[.float .f64 b,.float .f64 d],.int .i64 k]),.is (.agg #[.float .f64 b,.float .f64 d]),.is (.int .i64 k)] [some 6,some 7,some 8,some 9,some 10,some 11] (by kernel_rfl) (by kernel_rfl) rfl (by kernel_rfl) (by repeat (first|exact trivial|refine⟨fun _ _ _ g h=>by first|exact h.G g|exact fun w3 g3=>h w3 (G.trans g g3),?_⟩)) (by kernel_rfl) (by kernel_rfl) ?_
 refine Letters.is ?_
 refine Letters.is ?_
 refine Letters.any fun v2=> ?_
 refine Letters.is ?_
 refine Letters.is ?_
 refine Letters.is ?_
 refine Letters.nil ?_
 intro A hA
 simp only[q19,Act.put,List.setIfInBounds_toArray,List.set_cons_zero,List.set_cons_succ] at hA
 subst hA
 refine⟨?_,?_⟩
 ·skip
  refine Eaches.cons rfl ?kS (Eaches.cons rfl ?lN (Eaches.cons rfl ?lh (Eaches.cons rfl ?lQ (Eaches.cons rfl ?nz (Eaches.cons rfl ?lS (Eaches.nil))))))
  case nz|lS=>
   intro W hW hD K hK
   clear hD
   go_simp
   exact hK.out _ _ ⟨_,rfl,G.refl _,rfl⟩
  case kS|lN=>
   intro W hW hD K hK
   clear hD
   have hR0:=Rec.f2 (Rec.G R0.out hW)
   have ji:=hR0.1
   have jk:=hR0.2.1
   clear hR0
   have l9:=Rec.f2 (Rec.G R1.out hW)
   have pQ:=l9.1
   have pR:=l9.2.1
   clear l9
   go_simp
   exact hK.out _ _ ⟨_,rfl,G.refl _,rfl⟩
  ·intro W hW hD K hK
   clear hD
   go_simp
   go_wp2_with (go_at_call 61;refine Calls.mono (P:=Tryz.prog) (q4g W 63) ?_;intro e w9 hs;obtain⟨u9,rfl,g9,bL⟩:=hs)
   exact hK.out _ _ ⟨_,rfl,g9,bL⟩
  ·intro W hW hD K hK
   have h2:=Deps.get (v:=v2) 2 hD rfl rfl (by kernel_rfl)
   clear hD
   go_simp
   go_wp2_with (go_at_call 60;refine Calls.mono (P:=Tryz.prog) (H1.out W v2 (G.trans g0 hW) h2) ?_;intro e w9 hs;obtain⟨rfl,g9⟩:=hs)
   exact hK.out _ _ ⟨_,rfl,g9,rfl⟩
 intro w1 g1 hH
 clear hH
 have RR:Hid (Rec w1 (w.heap.size+1+1) [.float .f64 0,.float .f64 0]):=Rec.G R2.out g1
 clear H1 R0 R1 R2 hz0
 have cu:=Rec.f2 (Rec.G RR.out (G.refl _))
 have iP:=cu.1
 have iQ:=cu.2.1
 have iR:=cu.2.2.1
 have iT:=cu.2.2.2
 clear cu
 refine wpAny_ready (rs:=[6]) (by kernel_rfl) (by simp) ?_
 refine AllReady.cons rfl (fun K hK=> ?_) AllReady.nil
 go_simp
 refine hK _ _ ?_
 clear hK K iP iQ iR iT
 refine wpAny_ready (rs:=[7]) (by kernel_rfl) (by simp) ?_
 refine AllReady.cons rfl (fun K hK=> ?_) AllReady.nil
 go_simp
 refine hK _ _ ?_
 clear hK K
 refine wpAny_done (by kernel_rfl) ?_ _
 go_wp2_with fail
 have hT:Hid (Rec (World.setCell (World.setCell w1 ⟨w.heap.size+1+1,0,none⟩ (.float .f64 b)) ⟨w.heap.size+1+1,1,none⟩ (.float .f64 d)) (w.heap.size+1+1) [.float .f64 b,.float .f64 d]):=Rec.set2 (Rec.G RR.out (G.refl _))
 have g9:=Rec.g2 (b:=w.heap.size+1+1) (u:= .float .f64 b) (v:= .float .f64 d) (G.trans g0 g1) (by omega)
 generalize (World.setCell (World.setCell w1 ⟨w.heap.size+1+1,0,none⟩ (.float .f64 b)) ⟨w.heap.size+1+1,1,none⟩ (.float .f64 d))=w9 at *
 have hF:=Rec.f2 (Rec.G hT.out ((G.refl _)))
 have bS:=hF.1
 have bU:=hF.2.1
 have bV:=hF.2.2.1
 have bW:=hF.2.2.2
 clear hF
 refine bodyPost_ret (v:= .tuple #[.agg #[.float .f64 b,.float .f64 d],.int .i64 k]) (by simp [results,Tryz.results26,go_sem, *]) rfl ?_
 exact⟨rfl,g9⟩
set_option maxRecDepth 10000 in
theorem q9J (w:World) (x1 y1 x2 y2 b d:Nat) (k:Int)
  (HR:∀ w1 v,G w w1→FnIs 56 w1 v→Calls Tryz.prog 60 #[.agg #[.float .f64 x1,.float .f64 y1],.agg #[.float .f64 x2,.float .f64 y2],v] w1 fun e w'=>e= .returned (.tuple #[.agg #[.float .f64 b,.float .f64 d],.int .i64 k])∧G w1 w'):
  Calls Tryz.prog 27 #[.agg #[.float .f64 x1,.float .f64 y1],.agg #[.float .f64 x2,.float .f64 y2]] w fun e w'=>e= .returned (.tuple #[.agg #[.float .f64 b,.float .f64 d],.int .i64 k])∧G w w':=by
 have H1:Hid (∀ w1 v,G w w1→FnIs 56 w1 v→_):=HR
 clear HR
 go_enter Tryz.func27,Tryz.ntmps27
 go_wp2_with fail
 obtain⟨w0,aD,g0,hz0,R0,R1,R2⟩:=q0K w [.float .f64 x1,.float .f64 y1] [.float .f64 x2,.float .f64 y2] [.float .f64 0,.float .f64 0] 54 54 54
 rw[aD]
 clear aD
 refine q09 6 2 #[true,true,true,true,true,true,false,false] [.is (.agg #[.float .f64 x1,.float .f64 y1]),.is (.agg #[.float .f64 x2,.float .f64 y2]),.any (fun v w'=>FnIs 56 w' v),.is (.tuple #[.agg #[.float .f64 b,.float .f64 d],.int .i64 k]),.is (.agg #[.float .f64 b,.float .f64 d]),.is (.int .i64 k)] [some 6,some 7,some 8,some 9,some 10,some 11] (by kernel_rfl) (by kernel_rfl) rfl (by kernel_rfl) (by repeat (first|exact trivial|refine⟨fun _ _ _ g h=>by first|exact h.G g|exact fun w3 g3=>h w3 (G.trans g g3),?_⟩)) (by kernel_rfl) (by kernel_rfl) ?_
 refine Letters.is ?_
 refine Letters.is ?_
 refine Letters.any fun v2=> ?_
 refine Letters.is ?_
 refine Letters.is ?_
 refine Letters.is ?_
 refine Letters.nil ?_
 intro A hA
 simp only[q19,Act.put,List.setIfInBounds_toArray,List.set_cons_zero,List.set_cons_succ] at hA
 subst hA
 refine⟨?_,?_⟩
 ·skip
  refine Eaches.cons rfl ?lT (Eaches.cons rfl ?nA (Eaches.cons rfl ?nC (Eaches.cons rfl ?og (Eaches.cons rfl ?oh (Eaches.cons rfl ?om (Eaches.nil))))))
  case oh|om=>
   intro W hW hD K hK
   clear hD
   go_simp
   exact hK.out _ _ ⟨_,rfl,G.refl _,rfl⟩
  case lT|nA=>
   intro W hW hD K hK
   clear hD
   have hR0:=Rec.f2 (Rec.G R0.out hW)
   have ji:=hR0.1
   have jk:=hR0.2.1
   clear hR0
   have l9:=Rec.f2 (Rec.G R1.out hW)
   have pQ:=l9.1
   have pR:=l9.2.1
   clear l9
   go_simp
   exact hK.out _ _ ⟨_,rfl,G.refl _,rfl⟩
  ·intro W hW hD K hK
   clear hD
   go_simp
   go_wp2_with (go_at_call 61;refine Calls.mono (P:=Tryz.prog) (q4g W 56) ?_;intro e w9 hs;obtain⟨u9,rfl,g9,bL⟩:=hs)
   exact hK.out _ _ ⟨_,rfl,g9,bL⟩
  ·intro W hW hD K hK
   have h2:=Deps.get (v:=v2) 2 hD rfl rfl (by kernel_rfl)
   clear hD
   go_simp
   go_wp2_with (go_at_call 60;refine Calls.mono (P:=Tryz.prog) (H1.out W v2 (G.trans g0 hW) h2) ?_;intro e w9 hs;obtain⟨rfl,g9⟩:=hs)
   exact hK.out _ _ ⟨_,rfl,g9,rfl⟩
 intro w1 g1 hH
 clear hH
 have RR:Hid (Rec w1 (w.heap.size+1+1) [.float .f64 0,.float .f64 0]):=Rec.G R2.out g1
 clear H1 R0 R1 R2 hz0
 have cu:=Rec.f2 (Rec.G RR.out (G.refl _))
 have iP:=cu.1
 have iQ:=cu.2.1
 have iR:=cu.2.2.1
 have iT:=cu.2.2.2
 clear cu
 refine wpAny_ready (rs:=[6]) (by kernel_rfl) (by simp) ?_
 refine AllReady.cons rfl (fun K hK=> ?_) AllReady.nil
 go_simp
 refine hK _ _ ?_
 clear hK K iP iQ iR iT
 refine wpAny_ready (rs:=[7]) (by kernel_rfl) (by simp) ?_
 refine AllReady.cons rfl (fun K hK=> ?_) AllReady.nil
 go_simp
 refine hK _ _ ?_
 clear hK K
 refine wpAny_done (by kernel_rfl) ?_ _
 go_wp2_with fail
 have hT:Hid (Rec (World.setCell (World.setCell w1 ⟨w.heap.size+1+1,0,none⟩ (.float .f64 b)) ⟨w.heap.size+1+1,1,none⟩ (.float .f64 d)) (w.heap.size+1+1) [.float .f64 b,.float .f64 d]):=Rec.set2 (Rec.G RR.out (G.refl _))
 have g9:=Rec.g2 (b:=w.heap.size+1+1) (u:= .float .f64 b) (v:= .float .f64 d) (G.trans g0 g1) (by omega)
 generalize (World.setCell (World.setCell w1 ⟨w.heap.size+1+1,0,none⟩ (.float .f64 b)) ⟨w.heap.size+1+1,1,none⟩ (.float .f64 d))=w9 at *
 have hF:=Rec.f2 (Rec.G hT.out ((G.refl _)))
 have bS:=hF.1
 have bU:=hF.2.1
 have bV:=hF.2.2.1
 have bW:=hF.2.2.2
 clear hF
 refine bodyPost_ret (v:= .tuple #[.agg #[.float .f64 b,.float .f64 d],.int .i64 k]) (by simp [results,Tryz.results27,go_sem, *]) rfl ?_
 exact⟨rfl,g9⟩
set_option maxRecDepth 10000 in
theorem q3V (w:World) (x1 y1 x2 y2 b d:Nat) (k:Int)
  (HR:∀ w1,G w w1→Calls Tryz.prog 60 #[.agg #[.float .f64 x1,.float .f64 y1],.agg #[.float .f64 x2,.float .f64 y2],.func (.func 64) #[] #[]] w1 fun e w'=>e= .returned (.tuple #[.agg #[.float .f64 b,.float .f64 d],.int .i64 k])∧G w1 w'):
  Calls Tryz.prog 28 #[.agg #[.float .f64 x1,.float .f64 y1],.agg #[.float .f64 x2,.float .f64 y2]] w fun e w'=>e= .returned (.tuple #[.agg #[.float .f64 b,.float .f64 d],.int .i64 k])∧G w w':=by
 have H1:Hid (∀ w1,G w w1→_):=HR
 clear HR
 go_enter Tryz.func28,Tryz.ntmps28
 go_wp2_with fail
 obtain⟨w0,aD,g0,hz0,R0,R1,R2⟩:=q0K w [.float .f64 x1,.float .f64 y1] [.float .f64 x2,.float .f64 y2] [.float .f64 0,.float .f64 0] 54 54 54
 rw[aD]
 clear aD
 refine Calls.mono (P:=Tryz.prog) (H1.out w0 g0) ?_
 rintro e1 w1 ⟨rfl,g1⟩
 have RR:Hid (Rec w1 (w.heap.size+1+1) [.float .f64 0,.float .f64 0]):=Rec.G R2.out g1
 clear H1 R0 R1 R2 hz0
 have cu:=Rec.f2 (Rec.G RR.out (G.refl _))
 have iP:=cu.1
 have iQ:=cu.2.1
 have iR:=cu.2.2.1
 have iT:=cu.2.2.2
 clear cu
 go_wp2_with fail
 have hT:Hid (Rec (World.setCell (World.setCell w1 ⟨w.heap.size+1+1,0,none⟩ (.float .f64 b)) ⟨w.heap.size+1+1,1,none⟩ (.float .f64 d)) (w.heap.size+1+1) [.float .f64 b,.float .f64 d]):=Rec.set2 (Rec.G RR.out (G.refl _))
 have g9:=Rec.g2 (b:=w.heap.size+1+1) (u:= .float .f64 b) (v:= .float .f64 d) (G.trans g0 g1) (by omega)
 generalize (World.setCell (World.setCell w1 ⟨w.heap.size+1+1,0,none⟩ (.float .f64 b)) ⟨w.heap.size+1+1,1,none⟩ (.float .f64 d))=w9 at *
 have hF:=Rec.f2 (Rec.G hT.out ((G.refl _)))
 have bS:=hF.1
 have bU:=hF.2.1
 have bV:=hF.2.2.1
 have bW:=hF.2.2.2
 clear hF
 refine bodyPost_ret (v:= .tuple #[.agg #[.float .f64 b,.float .f64 d],.int .i64 k]) (by simp [results,Tryz.results28,go_sem, *]) rfl ?_
 exact⟨rfl,g9⟩
end Go.Proofs.YtljkfjjchkehaaaGreatDoor.EN
