/- What is proved here: contracts of cmp.Compare of floats, cmp.Or of two ints, and package geom's order, over this seat's translation.
What is proved here: package geom's Fast, by what its operations on floats give, over this seat's translation.
What is proved here: IEEE's sums, differences and products of finite words, told by what they lack (no program).
What is proved here: floats of whole numbers: sums, differences and products that are exact (no program).
What is proved here: where Fast is sure, it is right (no program).
What is proved here: where Fast is sure, all is finite, and it is right (no program).
What is proved here: contracts of the law's helpers: points and lists of points that are the same, the law's pt, over this seat's translation.
What is proved here: slices.Compact of points of which no two neighbours are the same, over this seat's translation. -/
import Derived.Test.YtdidnnbpdcanlaaGreatDoorC20
import Derived.Test.YtdidnnbpdcanlaaGreatDoorC34
import Derived.Shelf.SlSortCmp.QuietGrown
import Derived.Test.YtdidnnbpdcanlaaGreatDoorC33
import Derived.Test.YtdidnnbpdcanlaaGreatDoorC9
namespace Go.Proofs.YtdidnnbpdcanlaaGreatDoor.EN
open Go.ChangeShapes Go.WideShapes Go.ChangeAt Go.RowKit Go.Sort
attribute [local go_sem] q0d
/-- Finite floats are ordered as their numbers. -/
theorem q37 {x y:Nat} (hx:fex x<2047) (hy:fex y<2047):FloatKind.f64.format.order x y=some (compare (fz x) (fz y)):=by
 have n1:FT.nan x=false:=by
  unfold FT.nan
  have:=(q2X x).1 hx
  exact decide_eq_false (by unfold FT.infR at *;omega)
 have n2:FT.nan y=false:=by
  unfold FT.nan
  have:=(q2X y).1 hy
  exact decide_eq_false (by unfold FT.infR at *;omega)
 rw[FT.ord_f,n1,n2]
 simp only[Bool.or_self,Bool.false_eq_true,if_false]
 congr 1
 have hv0:∀ r,FT.v r=0↔r=0:=fun r=>by
  constructor
  ·intro h
   have h0:FT.v 0=0:=by rw[FT.v_sub (Nat.two_pow_pos _)]
   exact FT.v_inj (h.trans h0.symm)
  ·rintro rfl;rw[FT.v_sub (Nat.two_pow_pos _)]
 have hl:∀ r s,FT.v r<FT.v s↔r<s:=fun r s=>⟨fun h=>by
  rcases Nat.lt_or_ge r s with h1|h1
  ·exact h1
  ·have:=FT.v_le.2 h1;omega,FT.v_lt⟩
 unfold FT.key fz
 generalize FT.rung x=r
 generalize FT.rung y=s
 have h1:=hl r s
 have h2:=hl s r
 have h3:=hv0 r
 have h4:=hv0 s
 generalize FT.v r=a at *
 generalize FT.v s=b at *
 have key:∀ p q p' q':Int,(p<q↔p'<q')→(q<p↔q'<p')→compare p q=compare p' q':=by
  intro p q p' q' k1 k2
  rcases Int.lt_trichotomy p q with h|h|h
  ·rw[Int.compare_eq_lt.2 h,Int.compare_eq_lt.2 (k1.1 h)]
  ·rw[Int.compare_eq_eq.2 h,Int.compare_eq_eq.2 (by
    have:=mt k1.2 (by omega)
    have:=mt k2.2 (by omega)
    omega)]
  ·rw[Int.compare_eq_gt.2 h,Int.compare_eq_gt.2 (k2.1 h)]
 cases FT.neg x<;>cases FT.neg y<;>simp only[if_true,Bool.false_eq_true,if_false]<;>apply key<;>omega
theorem q3S (w:World) (x:Nat) (hx:fex x<2047):Calls Tryz.prog 145 #[.float .f64 x] w fun e w'=>e= .returned (.bool false)∧w'=w:=by
 have ho:=q37 hx hx
 rw[Int.compare_eq_eq.2 rfl] at ho
 clear hx
 go_enter Tryz.func145,Tryz.ntmps145
 go_wp2
 go_ret
 exact⟨by simp,rfl⟩
theorem q4c (w:World) (x y:Nat) (hx:fex x<2047) (hy:fex y<2047):Calls Tryz.prog 85 #[.float .f64 x,.float .f64 y] w fun e w'=>e= .returned (.int .i64 (cmpZ (fz x) (fz y)))∧w'=w:=by
 have HX:Hid (∀ w1,_):=fun w1=>q3S w1 x hx
 have HY:Hid (∀ w1,_):=fun w1=>q3S w1 y hy
 have ho:=q37 hx hy
 clear hx hy
 generalize fz x=p at *
 generalize fz y=q at *
 have go:∀ t1 t2:Bool,(FloatKind.f64.format.order x y==some .lt)=t1→(FloatKind.f64.format.order x y==some .gt)=t2→(if t1 then (-1:Int) else if t2 then 1 else 0)=cmpZ p q→Calls Tryz.prog 85 #[.float .f64 x,.float .f64 y] w fun e w'=>e= .returned (.int .i64 (cmpZ p q))∧w'=w:=by
  intro t1 t2 e1 e2 e3
  rw[← e3]
  clear ho e3
  go_enter Tryz.func85,Tryz.ntmps85
  go_wp2_with fail
  refine Calls.mono (P:=Tryz.prog) (HX.out _) ?_
  rintro e w1 ⟨rfl,rfl⟩
  go_wp2_with fail
  refine Calls.mono (P:=Tryz.prog) (HY.out _) ?_
  rintro e w1 ⟨rfl,rfl⟩
  cases t1
  ·cases t2
   ·go_wp2_with fail
    go_ret
    exact⟨rfl,rfl⟩
   ·go_wp2_with fail
    go_ret
    exact⟨rfl,rfl⟩
  ·go_wp2_with fail
   go_ret
   exact⟨rfl,rfl⟩
 unfold cmpZ at go ⊢
 rcases Int.lt_trichotomy p q with h|h|h
 ·rw[Int.compare_eq_lt.2 h] at ho
  exact go true false (by rw[ho];rfl) (by rw[ho];rfl) (by simp only[if_true];split<;>(try split)<;>omega)
 ·rw[Int.compare_eq_eq.2 h] at ho
  exact go false false (by rw[ho];rfl) (by rw[ho];rfl) (by simp only[Bool.false_eq_true,if_false];split<;>(try split)<;>omega)
 ·rw[Int.compare_eq_gt.2 h] at ho
  exact go false true (by rw[ho];rfl) (by rw[ho];rfl) (by simp only[if_true,Bool.false_eq_true,if_false];split<;>(try split)<;>omega)
/-- The first of two ints that isn't 0. -/
theorem or_c (w:World) (b c:Nat) (p q:Int) (h0:w.cell? ⟨b,0,none⟩=some (.int .i64 p)) (h1:w.cell? ⟨b,1,none⟩=some (.int .i64 q)):
  Calls Tryz.prog 84 #[.slice (some ⟨b,0,none⟩) 2 c] w fun e w'=>e= .returned (.int .i64 (if p=0 then q else p))∧w'=w:=by
 have H0:Hid _:=h0
 have H1:Hid _:=h1
 clear h0 h1
 go_enter Tryz.func84,Tryz.ntmps84
 go_wp2_with fail
 go_loopw [8] (fun vk wr=>∃ k:Nat,k≤2∧vk= .int .i64 k∧wr=w∧(0<k→p=0)∧(1<k→q=0)) (fun vk _=>2-(intOf vk).toNat)
 case atStart=>exact⟨0,by omega,rfl,rfl,by omega,by omega⟩
 case round=>
  obtain⟨k,hk,rfl,rfl,k0,k1⟩:=hrel
  rcases k with _|_|k
  ·have h0:=H0.out
   clear k0 k1
   by_cases hp:p=0
   ·subst hp
    go_wp2_with fail
    exact⟨⟨1,by omega,by first|trivial|rfl,by first|trivial|rfl,by simp,by simp⟩,by show 2-((1:Int)).toNat<2-((0:Int)).toNat;decide⟩
   ·have Ty:(p==0)=false:=by simpa using hp
    have hpb:(p != 0)=true:=by simpa using hp
    go_wp2_with fail
    go_ret
    exact⟨rfl,rfl⟩
  ·have h1:=H1.out
   obtain rfl:=k0 (by omega)
   clear k0 k1
   by_cases hq:q=0
   ·subst hq
    go_wp2_with fail
    exact⟨⟨2,by omega,by first|trivial|rfl,by first|trivial|rfl,by simp,by simp⟩,by show 2-((2:Int)).toNat<2-((1:Int)).toNat;decide⟩
   ·have qw:(q != 0)=true:=by simpa using hq
    go_wp2_with fail
    go_ret
    exact⟨rfl,rfl⟩
  ·have hk0:k=0:=by omega
   subst hk0
   obtain rfl:=k0 (by omega)
   obtain rfl:=k1 (by omega)
   go_wp2_with fail
   go_ret
   exact⟨rfl,rfl⟩
theorem q8v {P:Program} {md:Region.Mode} {ops:Array Oper} {Q:Exit→Act→World→Prop} {fp:Nat} {a:Act} {w w1:World} {listed:Array Bool} (np:Nat) (pl:List Nat) (pre:List Oper) (hpre:pl.map (fun k=>ops.toList[k]?)=pre.map some) (hs:Region.noSelect ops=true)
  (hch:chained md ops listed pl np=true) (hc:q2b md ops listed=true) (hw:q26 md ops=true) (hB:q2Y md ops pl pl listed=true) (hC:∃ n:Nat,w1=w.drewN n)
  (h:wpQuiet P ops (fun w'=>∃ n:Nat,w'=w.drewN n) (fun a'=>∀ w',(∃ n:Nat,w'=w.drewN n)→wpAny P md ops Q fp (q2F pl listed) a' w') pre a):wpAny P md ops Q (fp+pl.length) listed a w1:=
 q4T (C:=fun w'=>∃ n:Nat,w'=w.drewN n) (np:=np) pl pre (by rw[← hpre];simp) hs hch hc hw hB hC h
/-- Points in the order of X, of one X in that of Y. -/
def ordZ (p q:Nat×Nat):Int:=if cmpZ (fz p.1) (fz q.1)=0 then cmpZ (fz p.2) (fz q.2) else cmpZ (fz p.1) (fz q.1)
set_option maxRecDepth 20000 in
set_option maxHeartbeats 2000000 in
theorem qab (w:World) (p q:Nat×Nat) (hp:FinP p) (hq:FinP q):Calls Tryz.prog 42 #[.agg #[.float .f64 p.1,.float .f64 p.2],.agg #[.float .f64 q.1,.float .f64 q.2]] w fun e w'=>e= .returned (.int .i64 (ordZ p q))∧∃ n os,w'=grow (w.drewN n) os:=by
 have HX:Hid (∀ w1,_):=fun w1=>q4c w1 p.1 q.1 hp.1 hq.1
 have HY:Hid (∀ w1,_):=fun w1=>q4c w1 p.2 q.2 hp.2 hq.2
 unfold ordZ
 generalize cmpZ (fz p.1) (fz q.1)=c1 at *
 generalize cmpZ (fz p.2) (fz q.2)=c2 at *
 clear hp hq
 obtain⟨px,py⟩:=p
 obtain⟨qx,qy⟩:=q
 dsimp only at HX HY ⊢
 have PH:Hid (∀ (w:World) (b c:Nat),w.cell? ⟨b,0,none⟩=some (.int .i64 c1)→w.cell? ⟨b,1,none⟩=some (.int .i64 c2)→_):=fun w b c h0 h1=>or_c w b c c1 c2 h0 h1
 generalize (if c1=0 then c2 else c1)=r at *
 obtain⟨w0,hw0⟩:∃ w0,w0=(w.alloc (.cells #[.float .f64 px,.float .f64 py] 32)).alloc (.cells #[.float .f64 qx,.float .f64 qy] 32):=⟨_,rfl⟩
 have hgr:w0=grow w #[.cells #[.float .f64 px,.float .f64 py] 32 (0,0),.cells #[.float .f64 qx,.float .f64 qy] 32 (0,0)]:=by rw[hw0,alloc_eq_grow,alloc_eq_grow,grow_grow];rfl
 have HG:Hid _:=hgr
 have R0:Rec w0 w.heap.size [.float .f64 px,.float .f64 py]:=by rw[hw0];exact Rec.G (Rec.new2 w _ _ _) ((G.refl _).alloc _)
 have R1:Rec w0 (w.heap.size+1) [.float .f64 qx,.float .f64 qy]:=by
  have h:=Rec.new2 (w.alloc (.cells #[.float .f64 px,.float .f64 py] 32)) (.float .f64 qx) (.float .f64 qy) 32
  rw[World.size_alloc] at h
  rw[hw0];exact h
 obtain⟨a0,a1,-⟩:=R0.f2
 obtain⟨a2,a3,-⟩:=R1.f2
 clear hgr R0 R1
 go_enter Tryz.func42,Tryz.ntmps42
 go_wp2_with fail
 rw[← hw0]
 clear hw0
 refine wp_region_any (by kernel_rfl) ?_
 refine q8v (w:=w0) (fp:=3) 10 [0,1,2,3,4,5,6,7,8,9] [_,_,_,_,_,_,_,_,_,_] rfl (by kernel_rfl) (by kernel_rfl) (by kernel_rfl) (by kernel_rfl) (by kernel_rfl) ⟨1,rfl⟩ ?_
 quiet_step (fail)
 quiet_step (fail)
 quiet_step (fail)
 quiet_step (fail)
 quiet_step (first|(go_at_call 85;exact Calls.quiet_of_same (HX.out _)))
 quiet_step (fail)
 quiet_step (fail)
 quiet_step (fail)
 quiet_step (fail)
 quiet_step (first|(go_at_call 85;exact Calls.quiet_of_same (HY.out _)))
 refine wpQuiet_nil ?_
 rintro _ ⟨nq,rfl⟩
 obtain⟨n0,n1,-⟩:=(Rec.new2 (w0.drewN nq) (.int .i64 c1) (.int .i64 c2) 3).f2
 rw[show (w0.drewN nq).heap.size=w0.heap.size from rfl] at n0 n1
 clear HX HY a0 a1 a2 a3
 refine wpAny_ready (rs:=[10]) (by kernel_rfl) (by simp) ?_
 refine AllReady.cons rfl (fun K hK=> ?_) AllReady.nil
 go_simp
 refine hK _ _ ?_
 clear hK K
 refine wpAny_ready (rs:=[11]) (by kernel_rfl) (by simp) ?_
 refine AllReady.cons rfl (fun K hK=> ?_) AllReady.nil
 go_simp
 refine Calls.mono (P:=Tryz.prog) (PH.out _ _ _ n0 n1) ?_
 rintro e w2 ⟨rfl,rfl⟩
 refine hK _ _ ?_
 clear hK K n0 n1
 refine q05 (i:=12) (v:= ?_) rfl (by kernel_rfl) (by kernel_rfl) (by kernel_rfl) (fun _ _ _ h=>h) (Or.inl ⟨by rfl,?_⟩) ?_
 rotate_left
 ·intro wq;first|(go_simp;done)|(go_simp;with_reducible rfl)
 try simp only[Act.put,List.setIfInBounds_toArray,List.set_cons_zero,List.set_cons_succ]
 refine wpAny_done (by kernel_rfl) ?_ _
 go_wp2_with fail
 go_ret
 exact⟨rfl,nq,_,by rw[HG.out,alloc_eq_grow];show grow (grow (w.drewN nq) _) _=_;rw[grow_grow]⟩
end Go.Proofs.YtdidnnbpdcanlaaGreatDoor.EN
namespace Go.Proofs.YtdidnnbpdcanlaaGreatDoor.EN
open Go.ChangeShapes Go.WideShapes Go.ChangeAt Go.RowKit
attribute [local go_sem] q0d q1Y
/-- What Fast reckons. -/
structure FastBy (ax ay bx b2 cx cy:Nat) (d1 d2 l e1 e2 r s m k t:Nat):Prop where
 a1:Any (Ieee.double.sub bx ax) d1
 a2:Any (Ieee.double.sub cy ay) d2
 a3:Any (Ieee.double.mul d1 d2) l
 a4:Any (Ieee.double.sub b2 ay) e1
 a5:Any (Ieee.double.sub cx ax) e2
 a6:Any (Ieee.double.mul e1 e2) r
 a7:Any (Ieee.double.add (FT.rung l) (FT.rung r)) s
 a8:Any (Ieee.double.mul s 4377498837804122112) m
 a9:Any (Ieee.double.add m 4) k
 a10:Any (Ieee.double.sub l r) t
end Go.Proofs.YtdidnnbpdcanlaaGreatDoor.EN
namespace Go.Proofs.YtdidnnbpdcanlaaGreatDoor.EN
open Go.RowKit
open Go.Proofs.YtdidnnbpdcanlaaGreatDoor.EA (Rp IsRn top Z)
open BN
/-- r is the float nearest to P / Q units. -/
structure Rnd (P:Int) (Q r:Nat):Prop where
 lt:r<2^64
 le:FT.rung r≤FT.infR
 fin:FT.rung r<FT.infR→∃ N k:Nat,Z r=(if P<0 then -((N*2^k:Nat):Int) else ((N*2^k:Nat):Int))∧N≤2^53∧2*P.natAbs≤2*(N*2^k*Q)+2^k*Q∧2*(N*2^k*Q)≤2*P.natAbs+2^k*Q∧(k=0∨2^52*2^k*Q≤P.natAbs)
 small:∀ c,Rp c→c<top→P.natAbs≤c*Q→FT.rung r<FT.infR
 sg:P≠0→FT.neg r=decide (P<0)
theorem Rnd.isRn {z:Int} {Q r:Nat} (h:Rnd (z*(Q:Int)) Q r) (hQ:0<Q) (hf:FT.rung r<FT.infR):∃ v,IsRn z.natAbs v∧Z r=if z<0 then -(v:Int) else v:=by
 obtain⟨N,k,h1,h2,h3,h4,h5⟩:=h.fin hf
 have hab:(z*(Q:Int)).natAbs=z.natAbs*Q:=by rw[Int.natAbs_mul,Int.natAbs_natCast]
 have hsg:(z*(Q:Int)<0)=(z<0):=by
  apply propext
  have Tu:(0:Int)<Q:=by omega
  constructor
  ·intro hn
   by_cases hz:z<0
   ·exact hz
   ·have:=Int.mul_nonneg (show 0≤z by omega) (show (0:Int)≤Q by omega);omega
  ·intro hn
   exact Int.mul_neg_of_neg_of_pos hn Tu
 rw[hab] at h3 h4 h5
 simp only[hsg] at h1
 refine⟨N*2^k,⟨N,k,rfl,h2,?_,?_,?_⟩,h1⟩
 ·refine Nat.le_of_mul_le_mul_right (c:=Q) ?_ hQ
  rw[Nat.add_mul,Nat.mul_assoc,Nat.mul_assoc 2 (N*2^k) Q];exact h3
 ·refine Nat.le_of_mul_le_mul_right (c:=Q) ?_ hQ
  rw[Nat.add_mul,Nat.mul_assoc,Nat.mul_assoc 2 z.natAbs Q];exact h4
 ·rcases h5 with h|h
  ·exact Or.inl h
  ·exact Or.inr (Nat.le_of_mul_le_mul_right h hQ)
theorem Rnd.exact {z:Int} {Q r:Nat} (h:Rnd (z*(Q:Int)) Q r) (hQ:0<Q) (hr:Rp z.natAbs) (ht:z.natAbs<top):FT.rung r<FT.infR∧Z r=z:=by
 have hf:=h.small _ hr ht (by rw[Int.natAbs_mul,Int.natAbs_natCast];exact Nat.le_refl _)
 obtain⟨v,hv,hz⟩:=h.isRn hQ hf
 refine⟨hf,?_⟩
 rw[hz,hv.self hr]
 split<;>omega
theorem mag {a a' b b' Y U:Nat} (h1:9007199254740992*a'≤9007199254740992*a+a) (h2:9007199254740992*a≤9007199254740992*a'+a) (h3:9007199254740992*b'≤9007199254740992*b+b) (h4:9007199254740992*b≤9007199254740992*b'+b)
  (h5:(2*(a'*b')≤2*Y+U∧2*Y≤2*(a'*b')+U)∨(9007199254740992*Y≤9007199254740992*(a'*b')+a'*b'∧9007199254740992*(a'*b')≤9007199254740992*Y+a'*b')):
  36028797018963968*(a*b)≤36028797018963968*Y+14*Y+27021597764222976*U∧36028797018963968*Y≤36028797018963968*(a*b)+14*Y+27021597764222976*U:=by
 have u1:(9007199254740992*a')*(9007199254740992*b')≤(9007199254740993*a)*(9007199254740993*b):=Nat.mul_le_mul (by omega) (by omega)
 have u2:(9007199254740991*a)*(9007199254740991*b)≤(9007199254740992*a')*(9007199254740992*b'):=Nat.mul_le_mul (by omega) (by omega)
 have e:∀ c x y:Nat,(c*x)*(c*y)=c*c*(x*y):=fun c x y=>by ac_rfl
 rw[e,e] at u1 u2
 generalize a*b=p at *
 generalize a'*b'=p' at *
 rcases h5 with ⟨g1,g2⟩|⟨g1,g2⟩<;>constructor<;>omega
/-- What is beyond the bound. -/
theorem beyond {S s m k T t V U:Nat} (hV:0<V) (hU:U=2251799813685248*V) (hs:9007199254740992*S≤9007199254740992*s+S) (hm:2*(s*V)≤2*(m*U)+U∨9007199254740992*(s*V)≤9007199254740992*(m*U)+s*V)
  (hk:9007199254740992*(m+4)≤9007199254740992*k+(m+4)) (ht:9007199254740992*t≤9007199254740992*T+T) (h:k<t):14*S+54043195528445952<36028797018963968*T:=by
 subst hU
 have hm2:2*s≤4503599627370496*m+2251799813685248∨9007199254740992*s≤9007199254740992*(2251799813685248*m)+s:=by
  rcases hm with hm|hm
  ·left
   refine Nat.le_of_mul_le_mul_right (c:=V) ?_ hV
   rw[Nat.add_mul]
   have e1:2*s*V=2*(s*V):=Nat.mul_assoc _ _ _
   have e2:4503599627370496*m*V=2*(m*(2251799813685248*V)):=by
    rw[show m*(2251799813685248*V)=2251799813685248*(m*V) from by ac_rfl,Nat.mul_assoc];omega
   omega
  ·right
   refine Nat.le_of_mul_le_mul_right (c:=V) ?_ hV
   rw[Nat.add_mul]
   have e1:9007199254740992*s*V=9007199254740992*(s*V):=Nat.mul_assoc _ _ _
   have e2:9007199254740992*(2251799813685248*m)*V=9007199254740992*(m*(2251799813685248*V)):=by
    rw[show m*(2251799813685248*V)=2251799813685248*(m*V) from by ac_rfl,Nat.mul_assoc,Nat.mul_assoc]
   omega
 rcases hm2 with hm2|hm2<;>omega
theorem q2W (x:Nat):FT.rung (FT.rung x)=FT.rung x∧FT.neg (FT.rung x)=false∧Z (FT.rung x)=((Z x).natAbs:Int):=by
 have hr:=FT.rung_lt x
 refine⟨FT.rung_small hr,FT.neg_small hr,?_⟩
 rw[EA.Z_abs]
 unfold EA.Z
 rw[FT.rung_small hr,FT.neg_small hr]
 simp
end Go.Proofs.YtdidnnbpdcanlaaGreatDoor.EN
namespace Go.Proofs.YtdidnnbpdcanlaaGreatDoor.EN
open Go.ChangeShapes Go.WideShapes Go.ChangeAt Go.RowKit
attribute [local go_sem] q0d
/-- Finite floats of the same number. -/
theorem q9z {x y:Nat} (hx:fex x<2047) (hy:fex y<2047) (h:fz x=fz y):(FloatKind.f64.format.order x y==some .eq)=true:=by
 rw[q37 hx hy,h,Int.compare_eq_eq.2 rfl]
 rfl
theorem q5y (w:World) (b c:Nat) (h:(FloatKind.f64.format.order b c==some .eq)=true):Calls Tryz.prog 22 #[.float .f64 b,.float .f64 c] w fun e w'=>e= .returned (.bool true)∧G w w':=by
 go_enter Tryz.func22,Tryz.ntmps22
 go_wp2_with fail
 go_ret
 exact⟨rfl,G.refl _⟩
/-- Points of the same numbers. -/
def q6H (p q:Nat×Nat):Prop:=(FloatKind.f64.format.order p.1 q.1==some .eq)=true∧(FloatKind.f64.format.order p.2 q.2==some .eq)=true
theorem q8j (w:World) (p q:Nat×Nat) (h:q6H p q):Calls Tryz.prog 11 #[.agg #[.float .f64 p.1,.float .f64 p.2],.agg #[.float .f64 q.1,.float .f64 q.2]] w fun e w'=>e= .returned (.bool true)∧G w w':=by
 obtain⟨px,py⟩:=p
 obtain⟨qx,qy⟩:=q
 dsimp only
 have H1:Hid (∀ w1,_):=fun w1=>q5y w1 px qx h.1
 have H2:Hid (∀ w1,_):=fun w1=>q5y w1 py qy h.2
 clear h
 go_enter Tryz.func11,Tryz.ntmps11
 go_wp2_with fail
 obtain⟨w0,aL,g0,hz0,R0,R1⟩:=q2s w [.float .f64 px,.float .f64 py] [.float .f64 qx,.float .f64 qy] 32 32
 rw[aL]
 clear aL
 obtain⟨a0,a1,-⟩:=R0.out.f2
 obtain⟨a2,a3,-⟩:=R1.out.f2
 go_wp2_with fail
 refine Calls.mono (P:=Tryz.prog) (H1.out _) ?_
 rintro e w1 ⟨rfl,g1⟩
 obtain⟨b0,b1,-⟩:=(R0.out.G g1).f2
 obtain⟨b2,b3,-⟩:=(R1.out.G g1).f2
 go_wp2_with fail
 refine Calls.mono (P:=Tryz.prog) (H2.out _) ?_
 rintro e w2 ⟨rfl,g2⟩
 go_wp2_with fail
 go_ret
 exact⟨rfl,G.trans g0 (G.trans g1 g2)⟩
theorem q3I (w:World) (v u:Value) (l m:List (Nat×Nat)) (hlm:l.length=m.length) (hs:∀ k,k<l.length→q6H (l.getD k (0,0)) (m.getD k (0,0))) (hv:PSl w v l) (hu:PSl w u m) (hn:l.length≤100000):
  Calls Tryz.prog 10 #[v,u,.func (.func 11) #[] #[]] w fun e w'=>e= .returned (.bool true)∧G w w':=by
 obtain⟨pa,ca,rfl,-,hr1⟩:=hv
 obtain⟨pb,cb,rfl,-,hr2⟩:=hu
 have H1:Hid _:=hr1
 have H2:Hid _:=hr2
 have HS:Hid _:=hs
 clear hr1 hr2 hs
 have hcf:∀ args w,(callFunc 11 args).run Tryz.prog w= .ok (.enter 11 args) w:=fun _ _=>by kernel_rfl
 obtain⟨n,hn'⟩:∃ n,n=l.length:=⟨_,rfl⟩
 rw[← hlm,← hn']
 rw[← hn'] at hn
 have HN:Hid (n=l.length):=hn'
 have HM:Hid (n=m.length):=hn'.trans hlm
 clear hn' hlm
 go_enter Tryz.func10,Tryz.ntmps10
 go_wp2_with fail
 go_loopw [15] (fun vk wr=>∃ k:Nat,k≤n∧vk= .int .i64 k∧G w wr) (fun vk _=>n-(intOf vk).toNat)
 case atStart=>exact⟨0,Nat.zero_le _,rfl,G.refl _⟩
 case round=>
  obtain⟨k,hk,rfl,hG⟩:=hrel
  by_cases hkn:k<n
  ·obtain⟨b1,o1,rfl,hB1,qJ,qK⟩:=H1.out k (by rw[← HN.out];exact hkn)
   obtain⟨b2,o2,rfl,hB2,mJ,mK⟩:=H2.out k (by rw[← HM.out];exact hkn)
   have hx1:=hG.cell (p:=⟨b1,o1+k*2,none⟩) hB1 qJ
   have hy1:=hG.cell (p:=⟨b1,o1+k*2+1,none⟩) hB1 qK
   have hx2:=hG.cell (p:=⟨b2,o2+k*2,none⟩) hB2 mJ
   have hy2:=hG.cell (p:=⟨b2,o2+k*2+1,none⟩) hB2 mK
   have Pw:=HS.out k (by rw[← HN.out];exact hkn)
   generalize l.getD k (0,0)=p at *
   generalize m.getD k (0,0)=q at *
   obtain⟨px,py⟩:=p
   obtain⟨qx,qy⟩:=q
   dsimp only at hx1 hy1 hx2 hy2
   have HX:Hid _:=Pw
   clear Pw
   have hs:=hG.size
   have hb1:b1<wr.heap.size:=by omega
   have hb2:b2<wr.heap.size:=by omega
   clear qJ qK mJ mK hB1 hB2
   go_wp2_with fail
   refine q07 (by kernel_rfl) (by kernel_rfl) ?_
   intro W hW
   have hq1:=q04 (w:=W) (a:=⟨b1,o1+k*2,none⟩) (x:= .float .f64 px) (by rw[hW];first|(simp;done)|(simp;omega)|omega) (by rw[hW];first|assumption|(simp [go_sem];done)|(simp [*,go_sem];done))
   have hq2:=q04 (w:=W) (a:=⟨b1,o1+k*2+1,none⟩) (x:= .float .f64 py) (by rw[hW];first|(simp;done)|(simp;omega)|omega) (by rw[hW];first|assumption|(simp [go_sem];done)|(simp [*,go_sem];done))
   have hq3:=q04 (w:=W) (a:=⟨b2,o2+k*2,none⟩) (x:= .float .f64 qx) (by rw[hW];first|(simp;done)|(simp;omega)|omega) (by rw[hW];first|assumption|(simp [go_sem];done)|(simp [*,go_sem];done))
   have hq4:=q04 (w:=W) (a:=⟨b2,o2+k*2+1,none⟩) (x:= .float .f64 qy) (by rw[hW];first|(simp;done)|(simp;omega)|omega) (by rw[hW];first|assumption|(simp [go_sem];done)|(simp [*,go_sem];done))
   clear hW
   repeat (go_big_quiet_step (exact q1g (q8j _ (px,py) (qx,qy) HX.out)))
   refine wpQuiet_nil ?_
   clear hq1 hq2 hq3 hq4
   intro w5 gF
   have gK:=G.trans hG gF
   clear gF hx1 hy1 hx2 hy2
   go_wp2_with fail
   go_roundw
   case rel=>exact⟨k+1,by omega,by go_num,gK⟩
   case measure=>simp only[intOf];omega
  ·obtain rfl:k=n:=by omega
   go_wp2_with fail
   go_ret
   exact⟨rfl,hG⟩
theorem pt_c (w:World) (x y:Nat):Calls Tryz.prog 23 #[.float .f64 x,.float .f64 y] w fun e w'=>e= .returned (.agg #[.float .f64 x,.float .f64 y])∧G w w':=by
 go_enter Tryz.func23,Tryz.ntmps23
 go_wp2_with fail
 have hT:Hid (Rec (w.alloc (.cells #[.float .f64 x,.float .f64 y] 32)) w.heap.size [.float .f64 x,.float .f64 y]):=Rec.new2 w _ _ _
 have g9:G w (w.alloc (.cells #[.float .f64 x,.float .f64 y] 32)):=(G.refl w).alloc _
 generalize w.alloc (.cells #[.float .f64 x,.float .f64 y] 32)=w9 at *
 have sZ:=Rec.f2 (Rec.G hT.out (G.refl _))
 have LQ:=sZ.1
 have LU:=sZ.2.1
 have LV:=sZ.2.2.1
 have LY:=sZ.2.2.2
 clear sZ
 have iG:=Rec.lt hT.out
 refine bodyPost_ret (v:= .agg #[.float .f64 x,.float .f64 y]) (by simp [results,Tryz.results23,go_sem, *]) rfl ?_
 exact⟨rfl,g9⟩
end Go.Proofs.YtdidnnbpdcanlaaGreatDoor.EN
namespace Go.Proofs.YtdidnnbpdcanlaaGreatDoor.EN
open Go.ChangeShapes Go.WideShapes Go.ChangeAt Go.RowKit
attribute [local go_sem] q0d
/-- Points that are not the same. -/
def q81 (p q:Nat×Nat):Prop:=((FloatKind.f64.format.order p.1 q.1==some .eq)&&(FloatKind.f64.format.order p.2 q.2==some .eq))=false
theorem q0O (u v:Nat) (w:World):(Op.equalIn 9999 30 (.float .f64 u) (.float .f64 v)).run Tryz.prog w= .ok (FloatKind.f64.format.order u v==some .eq) w:=by kernel_rfl
set_option maxRecDepth 10000 in
theorem q85 (w:World) (v:Value) (l:List (Nat×Nat)) (h:PSl w v l) (hd:∀ k,k+1<l.length→q81 (l.getD (k+1) (0,0)) (l.getD k (0,0))) (hn:l.length≤1000000):
  Calls Tryz.prog 39 #[v] w fun e w'=>e= .returned v∧G w w':=by
 obtain⟨pa,ca,rfl,dB,hrow⟩:=h
 have HR:Hid _:=hrow
 have HD:Hid _:=hd
 obtain⟨n,hn'⟩:∃ n,n=l.length:=⟨_,rfl⟩
 rw[← hn'] at hn dB ⊢
 have HN:Hid (n=l.length):=hn'
 clear hrow hd hn'
 by_cases h2:n<2
 ·have Bd:decide ((n:Int)<2)=true:=decide_eq_true (by omega)
  go_enter Tryz.func39,Tryz.ntmps39
  go_wp2_with fail
  go_ret
  exact⟨rfl,G.refl _⟩
 ·have Bd:decide ((n:Int)<2)=false:=decide_eq_false (by omega)
  go_enter Tryz.func39,Tryz.ntmps39
  go_wp2_with fail
  go_loopw [3] (fun vk wr=>∃ k:Nat,k<n∧vk= .int .i64 (k+1)∧G w wr) (fun vk _=>n+1-(intOf vk).toNat)
  case atStart=>exact⟨0,by omega,rfl,G.refl _⟩
  case round=>
   obtain⟨k,hk,rfl,hG⟩:=hrel
   by_cases hkn:k+1<n
   ·have hkz:decide ((k:Int)+1<(n:Int))=true:=decide_eq_true (by omega)
    obtain⟨b1,o1,rfl,hB1,qJ,qK⟩:=HR.out (k+1) (by rw[← HN.out];exact hkn)
    obtain⟨b2,o2,e2,hB2,mJ,mK⟩:=HR.out k (by rw[← HN.out];omega)
    cases e2
    have hx1:=hG.cell (p:=⟨b1,o1+(k+1)*2,none⟩) hB1 qJ
    have hy1:=hG.cell (p:=⟨b1,o1+(k+1)*2+1,none⟩) hB1 qK
    have hx2:=hG.cell (p:=⟨b1,o1+k*2,none⟩) hB1 mJ
    have hy2:=hG.cell (p:=⟨b1,o1+k*2+1,none⟩) hB1 mK
    have hdk:=HD.out k (by rw[← HN.out];exact hkn)
    generalize l.getD (k+1) (0,0)=p at *
    generalize l.getD k (0,0)=q at *
    obtain⟨px,py⟩:=p
    obtain⟨qx,qy⟩:=q
    unfold q81 at hdk
    dsimp only at hx1 hy1 hx2 hy2 hdk
    have hs:=hG.size
    have hb1:b1<wr.heap.size:=by omega
    clear qJ qK mJ mK hB1 hB2
    go_wp2_with fail
    have he1:=fun w=>q0O px qx w
    have he2:=fun w=>q0O py qy w
    generalize (FloatKind.f64.format.order px qx==some .eq)=t1 at hdk he1
    generalize (FloatKind.f64.format.order py qy==some .eq)=t2 at hdk he2
    cases t1
    ·clear hdk he2
     refine q07 (by kernel_rfl) (by kernel_rfl) ?_
     intro W hW
     have hq1:=q04 (w:=W) (a:=⟨b1,o1+k*2,none⟩) (x:= .float .f64 qx) (by rw[hW];first|(simp;done)|(simp;omega)|omega) (by rw[hW];first|assumption|(simp [go_sem];done)|(simp [*,go_sem];done))
     have hq2:=q04 (w:=W) (a:=⟨b1,o1+k*2+1,none⟩) (x:= .float .f64 qy) (by rw[hW];first|(simp;done)|(simp;omega)|omega) (by rw[hW];first|assumption|(simp [go_sem];done)|(simp [*,go_sem];done))
     have hq3:=q04 (w:=W) (a:=⟨b1,o1+(k+1)*2,none⟩) (x:= .float .f64 px) (by rw[hW];first|(simp;done)|(simp;omega)|omega) (by rw[hW];first|assumption|(simp [go_sem];done)|(simp [*,go_sem];done))
     have hq4:=q04 (w:=W) (a:=⟨b1,o1+(k+1)*2+1,none⟩) (x:= .float .f64 py) (by rw[hW];first|(simp;done)|(simp;omega)|omega) (by rw[hW];first|assumption|(simp [go_sem];done)|(simp [*,go_sem];done))
     clear hW
     repeat (go_big_quiet_step (fail))
     refine wpQuiet_nil ?_
     clear hq1 hq2 hq3 hq4
     intro w5 gF
     go_wp2_with fail
     refine⟨⟨k+1,hkn,by go_num,G.trans hG gF⟩,?_⟩
     show n+1-((k:Int)+1+1).toNat<n+1-((k:Int)+1).toNat
     omega
    ·obtain rfl:t2=false:=by simpa using hdk
     clear hdk
     refine q07 (by kernel_rfl) (by kernel_rfl) ?_
     intro W hW
     have kC:=q04 (w:=W) (a:=⟨b1,o1+k*2,none⟩) (x:= .float .f64 qx) (by rw[hW];first|(simp;done)|(simp;omega)|omega) (by rw[hW];first|assumption|(simp [go_sem];done)|(simp [*,go_sem];done))
     have kG:=q04 (w:=W) (a:=⟨b1,o1+k*2+1,none⟩) (x:= .float .f64 qy) (by rw[hW];first|(simp;done)|(simp;omega)|omega) (by rw[hW];first|assumption|(simp [go_sem];done)|(simp [*,go_sem];done))
     have kS:=q04 (w:=W) (a:=⟨b1,o1+(k+1)*2,none⟩) (x:= .float .f64 px) (by rw[hW];first|(simp;done)|(simp;omega)|omega) (by rw[hW];first|assumption|(simp [go_sem];done)|(simp [*,go_sem];done))
     have hq8:=q04 (w:=W) (a:=⟨b1,o1+(k+1)*2+1,none⟩) (x:= .float .f64 py) (by rw[hW];first|(simp;done)|(simp;omega)|omega) (by rw[hW];first|assumption|(simp [go_sem];done)|(simp [*,go_sem];done))
     clear hW
     repeat (go_big_quiet_step (fail))
     refine wpQuiet_nil ?_
     clear kC kG kS hq8
     intro w5 gF
     go_wp2_with fail
     refine⟨⟨k+1,hkn,by go_num,G.trans hG gF⟩,?_⟩
     show n+1-((k:Int)+1+1).toNat<n+1-((k:Int)+1).toNat
     omega
   ·have hkz:decide ((k:Int)+1<(n:Int))=false:=decide_eq_false (by omega)
    go_wp2_with fail
    go_ret
    exact⟨rfl,hG⟩
end Go.Proofs.YtdidnnbpdcanlaaGreatDoor.EN
