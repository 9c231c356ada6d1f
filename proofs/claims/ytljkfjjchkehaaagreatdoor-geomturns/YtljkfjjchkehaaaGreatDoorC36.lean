/- What is proved here: contracts of cmp.Compare of floats, cmp.Or of two ints, and package geom's order, over this seat's translation.
What is proved here: package geom's Fast, by what its operations on floats give, over this seat's translation.
What is proved here: IEEE's sums, differences and products of finite words, told by what they lack (no program).
What is proved here: floats of whole numbers: sums, differences and products that are exact (no program).
What is proved here: Fast of whole numbers that aren't great says what turns (no program).
What is proved here: where Fast is sure, it is right (no program).
What is proved here: where Fast is sure, all is finite, and it is right (no program).
What is proved here: where Fast is sure, all is finite, and what it says turns (no program).
What is proved here: contracts of the law's helpers: points and lists of points that are the same, the law's pt, over this seat's translation.
What is proved here: slices.Compact of points of which no two neighbours are the same, over this seat's translation. -/
import Derived.Test.YtljkfjjchkehaaaGreatDoorC34
import Derived.Test.YtljkfjjchkehaaaGreatDoorC35
import Derived.Shelf.SlSortCmp.QuietGrown
import Derived.Test.YtljkfjjchkehaaaGreatDoorC27
import Derived.Test.YtljkfjjchkehaaaGreatDoorC13
namespace Go.Proofs.YtljkfjjchkehaaaGreatDoor.EN
open Go.ChangeShapes Go.WideShapes Go.ChangeAt Go.RowKit Go.Sort
attribute [local go_sem] q0d
/-- Finite floats are ordered as their numbers. -/
theorem q8T {x y:Nat} (hx:fex x<2047) (hy:fex y<2047):FloatKind.f64.format.order x y=some (compare (fz x) (fz y)):=by
 have n1:FT.nan x=false:=by
  unfold FT.nan
  have:=(q2o x).1 hx
  exact decide_eq_false (by unfold FT.infR at *;omega)
 have n2:FT.nan y=false:=by
  unfold FT.nan
  have:=(q2o y).1 hy
  exact decide_eq_false (by unfold FT.infR at *;omega)
 rw[FT.ord_f,n1,n2]
 simp only[Bool.or_self,Bool.false_eq_true,if_false]
 congr 1
 have hv0:∀ r,FT.v r=0↔r=0:=fun r=>by
  constructor
  ·intro h
   have h0:FT.v 0=0:=by rw[FT.v_sub (Nat.two_pow_pos _)]
   exact FT.v_inj (h.trans h0.symm)
  ·rintro rfl;rw[FT.v_sub (Nat.two_pow_pos _)]
 have hl:∀ r s,FT.v r<FT.v s↔r<s:=fun r s=>⟨fun h=>by
  rcases Nat.lt_or_ge r s with h1|h1
  ·exact h1
  ·have:=FT.v_le.2 h1;omega,FT.v_lt⟩
 unfold FT.key fz
 generalize FT.rung x=r
 generalize FT.rung y=s
 have h1:=hl r s
 have h2:=hl s r
 have h3:=hv0 r
 have h4:=hv0 s
 generalize FT.v r=a at *
 generalize FT.v s=b at *
 have key:∀ p q p' q':Int,(p<q↔p'<q')→(q<p↔q'<p')→compare p q=compare p' q':=by
  intro p q p' q' k1 k2
  rcases Int.lt_trichotomy p q with h|h|h
  ·rw[Int.compare_eq_lt.2 h,Int.compare_eq_lt.2 (k1.1 h)]
  ·rw[Int.compare_eq_eq.2 h,Int.compare_eq_eq.2 (by
    have:=mt k1.2 (by omega)
    have:=mt k2.2 (by omega)
    omega)]
  ·rw[Int.compare_eq_gt.2 h,Int.compare_eq_gt.2 (k2.1 h)]
 cases FT.neg x<;>cases FT.neg y<;>simp only[if_true,Bool.false_eq_true,if_false]<;>apply key<;>omega
theorem q3M (w:World) (x:Nat) (hx:fex x<2047):Calls Tryz.prog 192 #[.float .f64 x] w fun e w'=>e= .returned (.bool false)∧w'=w:=by
 have ho:=q8T hx hx
 rw[Int.compare_eq_eq.2 rfl] at ho
 clear hx
 go_enter Tryz.func192,Tryz.ntmps192
 go_wp2
 go_ret
 exact⟨by simp,rfl⟩
theorem q40 (w:World) (x y:Nat) (hx:fex x<2047) (hy:fex y<2047):Calls Tryz.prog 160 #[.float .f64 x,.float .f64 y] w fun e w'=>e= .returned (.int .i64 (cmpZ (fz x) (fz y)))∧w'=w:=by
 have HX:Hid (∀ w1,_):=fun w1=>q3M w1 x hx
 have HY:Hid (∀ w1,_):=fun w1=>q3M w1 y hy
 have ho:=q8T hx hy
 clear hx hy
 generalize fz x=p at *
 generalize fz y=q at *
 have go:∀ t1 t2:Bool,(FloatKind.f64.format.order x y==some .lt)=t1→(FloatKind.f64.format.order x y==some .gt)=t2→(if t1 then (-1:Int) else if t2 then 1 else 0)=cmpZ p q→Calls Tryz.prog 160 #[.float .f64 x,.float .f64 y] w fun e w'=>e= .returned (.int .i64 (cmpZ p q))∧w'=w:=by
  intro t1 t2 e1 e2 e3
  rw[← e3]
  clear ho e3
  go_enter Tryz.func160,Tryz.ntmps160
  go_wp2_with fail
  refine Calls.mono (P:=Tryz.prog) (HX.out _) ?_
  rintro e w1 ⟨rfl,rfl⟩
  go_wp2_with fail
  refine Calls.mono (P:=Tryz.prog) (HY.out _) ?_
  rintro e w1 ⟨rfl,rfl⟩
  cases t1
  ·cases t2
   ·go_wp2_with fail
    go_ret
    exact⟨rfl,rfl⟩
   ·go_wp2_with fail
    go_ret
    exact⟨rfl,rfl⟩
  ·go_wp2_with fail
   go_ret
   exact⟨rfl,rfl⟩
 unfold cmpZ at go ⊢
 rcases Int.lt_trichotomy p q with h|h|h
 ·rw[Int.compare_eq_lt.2 h] at ho
  exact go true false (by rw[ho];rfl) (by rw[ho];rfl) (by simp only[if_true];split<;>(try split)<;>omega)
 ·rw[Int.compare_eq_eq.2 h] at ho
  exact go false false (by rw[ho];rfl) (by rw[ho];rfl) (by simp only[Bool.false_eq_true,if_false];split<;>(try split)<;>omega)
 ·rw[Int.compare_eq_gt.2 h] at ho
  exact go false true (by rw[ho];rfl) (by rw[ho];rfl) (by simp only[if_true,Bool.false_eq_true,if_false];split<;>(try split)<;>omega)
/-- The first of two ints that isn't 0. -/
theorem or_c (w:World) (b c:Nat) (p q:Int) (h0:w.cell? ⟨b,0,none⟩=some (.int .i64 p)) (h1:w.cell? ⟨b,1,none⟩=some (.int .i64 q)):
  Calls Tryz.prog 159 #[.slice (some ⟨b,0,none⟩) 2 c] w fun e w'=>e= .returned (.int .i64 (if p=0 then q else p))∧w'=w:=by
 have H0:Hid _:=h0
 have H1:Hid _:=h1
 clear h0 h1
 go_enter Tryz.func159,Tryz.ntmps159
 go_wp2_with fail
 go_loopw [8] (fun vk wr=>∃ k:Nat,k≤2∧vk= .int .i64 k∧wr=w∧(0<k→p=0)∧(1<k→q=0)) (fun vk _=>2-(intOf vk).toNat)
 case atStart=>exact⟨0,by omega,rfl,rfl,by omega,by omega⟩
 case round=>
  obtain⟨k,hk,rfl,rfl,k0,k1⟩:=hrel
  rcases k with _|_|k
  ·have h0:=H0.out
   clear k0 k1
   by_cases hp:p=0
   ·subst hp
    go_wp2_with fail
    exact⟨⟨1,by omega,by first|trivial|rfl,by first|trivial|rfl,by simp,by simp⟩,by show 2-((1:Int)).toNat<2-((0:Int)).toNat;decide⟩
   ·have TU:(p==0)=false:=by simpa using hp
    have hpb:(p != 0)=true:=by simpa using hp
    go_wp2_with fail
    go_ret
    exact⟨rfl,rfl⟩
  ·have h1:=H1.out
   obtain rfl:=k0 (by omega)
   clear k0 k1
   by_cases hq:q=0
   ·subst hq
    go_wp2_with fail
    exact⟨⟨2,by omega,by first|trivial|rfl,by first|trivial|rfl,by simp,by simp⟩,by show 2-((2:Int)).toNat<2-((1:Int)).toNat;decide⟩
   ·have Lm:(q != 0)=true:=by simpa using hq
    go_wp2_with fail
    go_ret
    exact⟨rfl,rfl⟩
  ·have hk0:k=0:=by omega
   subst hk0
   obtain rfl:=k0 (by omega)
   obtain rfl:=k1 (by omega)
   go_wp2_with fail
   go_ret
   exact⟨rfl,rfl⟩
theorem q7O {P:Program} {md:Region.Mode} {ops:Array Oper} {Q:Exit→Act→World→Prop} {fp:Nat} {a:Act} {w w1:World} {listed:Array Bool} (np:Nat) (pl:List Nat) (pre:List Oper) (hpre:pl.map (fun k=>ops.toList[k]?)=pre.map some) (hs:Region.noSelect ops=true)
  (hch:chained md ops listed pl np=true) (hc:q20 md ops listed=true) (hw:q1Z md ops=true) (hB:q2P md ops pl pl listed=true) (hC:∃ n:Nat,w1=w.drewN n)
  (h:wpQuiet P ops (fun w'=>∃ n:Nat,w'=w.drewN n) (fun a'=>∀ w',(∃ n:Nat,w'=w.drewN n)→wpAny P md ops Q fp (q2y pl listed) a' w') pre a):wpAny P md ops Q (fp+pl.length) listed a w1:=
 q4v (C:=fun w'=>∃ n:Nat,w'=w.drewN n) (np:=np) pl pre (by rw[← hpre];simp) hs hch hc hw hB hC h
/-- Points in the order of X, of one X in that of Y. -/
def ordZ (p q:Nat×Nat):Int:=if cmpZ (fz p.1) (fz q.1)=0 then cmpZ (fz p.2) (fz q.2) else cmpZ (fz p.1) (fz q.1)
set_option maxRecDepth 20000 in
set_option maxHeartbeats 2000000 in
theorem q9G (w:World) (p q:Nat×Nat) (hp:FinP p) (hq:FinP q):Calls Tryz.prog 117 #[.agg #[.float .f64 p.1,.float .f64 p.2],.agg #[.float .f64 q.1,.float .f64 q.2]] w fun e w'=>e= .returned (.int .i64 (ordZ p q))∧∃ n os,w'=grow (w.drewN n) os:=by
 have HX:Hid (∀ w1,_):=fun w1=>q40 w1 p.1 q.1 hp.1 hq.1
 have HY:Hid (∀ w1,_):=fun w1=>q40 w1 p.2 q.2 hp.2 hq.2
 unfold ordZ
 generalize cmpZ (fz p.1) (fz q.1)=c1 at *
 generalize cmpZ (fz p.2) (fz q.2)=c2 at *
 clear hp hq
 obtain⟨px,py⟩:=p
 obtain⟨qx,qy⟩:=q
 dsimp only at HX HY ⊢
 have SK:Hid (∀ (w:World) (b c:Nat),w.cell? ⟨b,0,none⟩=some (.int .i64 c1)→w.cell? ⟨b,1,none⟩=some (.int .i64 c2)→_):=fun w b c h0 h1=>or_c w b c c1 c2 h0 h1
 generalize (if c1=0 then c2 else c1)=r at *
 obtain⟨w0,hw0⟩:∃ w0,w0=(w.alloc (.cells #[.float .f64 px,.float .f64 py] 66)).alloc (.cells #[.float .f64 qx,.float .f64 qy] 66):=⟨_,rfl⟩
 have hgr:w0=grow w #[.cells #[.float .f64 px,.float .f64 py] 66 (0,0),.cells #[.float .f64 qx,.float .f64 qy] 66 (0,0)]:=by rw[hw0,alloc_eq_grow,alloc_eq_grow,grow_grow];rfl
 have HG:Hid _:=hgr
 have R0:Rec w0 w.heap.size [.float .f64 px,.float .f64 py]:=by rw[hw0];exact Rec.G (Rec.new2 w _ _ _) ((G.refl _).alloc _)
 have R1:Rec w0 (w.heap.size+1) [.float .f64 qx,.float .f64 qy]:=by
  have h:=Rec.new2 (w.alloc (.cells #[.float .f64 px,.float .f64 py] 66)) (.float .f64 qx) (.float .f64 qy) 66
  rw[World.size_alloc] at h
  rw[hw0];exact h
 obtain⟨a0,a1,-⟩:=R0.f2
 obtain⟨a2,a3,-⟩:=R1.f2
 clear hgr R0 R1
 go_enter Tryz.func117,Tryz.ntmps117
 go_wp2_with fail
 rw[← hw0]
 clear hw0
 refine wp_region_any (by kernel_rfl) ?_
 refine q7O (w:=w0) (fp:=3) 10 [0,1,2,3,4,5,6,7,8,9] [_,_,_,_,_,_,_,_,_,_] rfl (by kernel_rfl) (by kernel_rfl) (by kernel_rfl) (by kernel_rfl) (by kernel_rfl) ⟨1,rfl⟩ ?_
 quiet_step (fail)
 quiet_step (fail)
 quiet_step (fail)
 quiet_step (fail)
 quiet_step (first|(go_at_call 160;exact Calls.quiet_of_same (HX.out _)))
 quiet_step (fail)
 quiet_step (fail)
 quiet_step (fail)
 quiet_step (fail)
 quiet_step (first|(go_at_call 160;exact Calls.quiet_of_same (HY.out _)))
 refine wpQuiet_nil ?_
 rintro _ ⟨nq,rfl⟩
 obtain⟨n0,n1,-⟩:=(Rec.new2 (w0.drewN nq) (.int .i64 c1) (.int .i64 c2) 3).f2
 rw[show (w0.drewN nq).heap.size=w0.heap.size from rfl] at n0 n1
 clear HX HY a0 a1 a2 a3
 refine wpAny_ready (rs:=[10]) (by kernel_rfl) (by simp) ?_
 refine AllReady.cons rfl (fun K hK=> ?_) AllReady.nil
 go_simp
 refine hK _ _ ?_
 clear hK K
 refine wpAny_ready (rs:=[11]) (by kernel_rfl) (by simp) ?_
 refine AllReady.cons rfl (fun K hK=> ?_) AllReady.nil
 go_simp
 refine Calls.mono (P:=Tryz.prog) (SK.out _ _ _ n0 n1) ?_
 rintro e w2 ⟨rfl,rfl⟩
 refine hK _ _ ?_
 clear hK K n0 n1
 refine q08 (i:=12) (v:= ?_) rfl (by kernel_rfl) (by kernel_rfl) (by kernel_rfl) (fun _ _ _ h=>h) (Or.inl ⟨by rfl,?_⟩) ?_
 rotate_left
 ·intro wq;first|(go_simp;done)|(go_simp;with_reducible rfl)
 try simp only[Act.put,List.setIfInBounds_toArray,List.set_cons_zero,List.set_cons_succ]
 refine wpAny_done (by kernel_rfl) ?_ _
 go_wp2_with fail
 go_ret
 exact⟨rfl,nq,_,by rw[HG.out,alloc_eq_grow];show grow (grow (w.drewN nq) _) _=_;rw[grow_grow]⟩
end Go.Proofs.YtljkfjjchkehaaaGreatDoor.EN
namespace Go.Proofs.YtljkfjjchkehaaaGreatDoor.EN
open Go.ChangeShapes Go.WideShapes Go.ChangeAt Go.RowKit
attribute [local go_sem] q0d q0D
/-- The float with the other sign. -/
def oppF (b:Nat):Nat:=Op.negFloat .f64 b
/-- What Fast reckons. -/
structure FastBy (ax ay bx b2 cx cy:Nat) (d1 d2 l e1 e2 r s m k t:Nat):Prop where
 a1:Any (Ieee.double.sub bx ax) d1
 a2:Any (Ieee.double.sub cy ay) d2
 a3:Any (Ieee.double.mul d1 d2) l
 a4:Any (Ieee.double.sub b2 ay) e1
 a5:Any (Ieee.double.sub cx ax) e2
 a6:Any (Ieee.double.mul e1 e2) r
 a7:Any (Ieee.double.add (FT.rung l) (FT.rung r)) s
 a8:Any (Ieee.double.mul s 4377498837804122112) m
 a9:Any (Ieee.double.add m 4) k
 a10:Any (Ieee.double.sub l r) t
def q1v (k t:Nat):Int×Bool:=if (FloatKind.f64.format.order t k==some .gt) then (1,true) else if (FloatKind.f64.format.order t (oppF k)==some .lt) then (-1,true) else (0,false)
def q9z (w:World) (ax ay bx b2 cx cy:Nat) (e:Ending) (w':World):Prop:=∃ d1 d2 l e1 e2 r s m k t,FastBy ax ay bx b2 cx cy d1 d2 l e1 e2 r s m k t∧e= .returned (.tuple #[.int .i64 (q1v k t).1,.bool (q1v k t).2])∧G w w'
theorem q28 {x y q:Nat} (h:Ieee.double.sub x y=some q):q<2^64:=Ieee.Format.sub_lt _ h
theorem q3P {x y q:Nat} (h:Ieee.double.mul x y=some q):q<2^64:=Ieee.Format.mul_lt _ h
theorem q5v {x y q:Nat} (h:Ieee.double.add x y=some q):q<2^64:=Ieee.Format.add_lt _ h
set_option maxRecDepth 20000 in
theorem qaz (w:World) (ax ay bx b2 cx cy:Nat):Calls Tryz.prog 41 #[.agg #[.float .f64 ax,.float .f64 ay],.agg #[.float .f64 bx,.float .f64 b2],.agg #[.float .f64 cx,.float .f64 cy]] w (q9z w ax ay bx b2 cx cy):=by
 go_enter Tryz.func41,Tryz.ntmps41
 go_wp2_with fail
 obtain⟨w0,aH,g0,hz0,R0,R1,R2⟩:=q1o w [.float .f64 ax,.float .f64 ay] [.float .f64 bx,.float .f64 b2] [.float .f64 cx,.float .f64 cy] 66 66 66
 rw[aH]
 clear aH
 obtain⟨d1,w1,h1,g1,A1⟩:=q0L .sub 26 bx ax (by simp) (fun q hq=>q28 hq) w0
 obtain⟨d2,w2,h2,g2,A2⟩:=q0L .sub 26 cy ay (by simp) (fun q hq=>q28 hq) w1
 obtain⟨l,w3,h3,g3,A3⟩:=q0L .mul 26 d1 d2 (by simp) (fun q hq=>q3P hq) w2
 obtain⟨e1,w4,h4,g4,A4⟩:=q0L .sub 26 b2 ay (by simp) (fun q hq=>q28 hq) w3
 obtain⟨e2,w5,h5,g5,A5⟩:=q0L .sub 26 cx ax (by simp) (fun q hq=>q28 hq) w4
 obtain⟨r,w6,h6,g6,A6⟩:=q0L .mul 26 e1 e2 (by simp) (fun q hq=>q3P hq) w5
 have dN:=g1
 have mF:=G.trans dN g2
 have uo:=G.trans mF g3
 have su:=G.trans uo g4
 have Ac:=G.trans su g5
 have O0:=G.trans Ac g6
 obtain⟨p0,p1,-⟩:=R0.out.f2
 obtain⟨p2,p3,-⟩:=R1.out.f2
 obtain⟨p4,p5,-⟩:=R2.out.f2
 obtain⟨q0,q1,-⟩:=(R0.out.G dN).f2
 obtain⟨q4,q5,-⟩:=(R2.out.G dN).f2
 obtain⟨r0,r1,-⟩:=(R0.out.G uo).f2
 obtain⟨r2,r3,-⟩:=(R1.out.G uo).f2
 obtain⟨r4,r5,-⟩:=(R2.out.G uo).f2
 obtain⟨s0,s1,-⟩:=(R0.out.G su).f2
 obtain⟨s4,s5,-⟩:=(R2.out.G su).f2
 have HA:Hid (∀ w1,_):=fun w1=>q8a l w1 A3.1
 have HB:Hid (∀ w1,_):=fun w1=>q8a r w1 A6.1
 go_wp2_with fail
 rw[h1]
 go_wp2_with fail
 refine Calls.mono (P:=Tryz.prog) (HA.out _) ?_
 rintro e w7 ⟨rfl,g7⟩
 go_wp2_with fail
 refine Calls.mono (P:=Tryz.prog) (HB.out _) ?_
 rintro e w8 ⟨rfl,g8⟩
 have O1:=G.trans O0 (G.trans g7 g8)
 clear h1 h2 h3 h4 h5 h6 g1 g2 g3 g4 g5 g6 g7 g8 dN mF uo su Ac O0 p0 p1 p2 p3 p4 p5 q0 q1 q4 q5 r0 r1 r2 r3 r4 r5 s0 s1 s4 s5 R0 R1 R2 HA HB
 obtain⟨s,w9,h1,g1,A7⟩:=q0L .add 26 (FT.rung l) (FT.rung r) (by simp) (fun q hq=>q5v hq) w8
 obtain⟨m,aX,h2,g2,A8⟩:=q0L .mul 26 s 4377498837804122112 (by simp) (fun q hq=>q3P hq) w9
 obtain⟨k,bC,h3,g3,A9⟩:=q0L .add 26 m 4 (by simp) (fun q hq=>q5v hq) aX
 obtain⟨t,dK,h4,g4,O3⟩:=q0L .sub 26 l r (by simp) (fun q hq=>q28 hq) bC
 have HF:Hid (FastBy ax ay bx b2 cx cy d1 d2 l e1 e2 r s m k t):=⟨A1,A2,A3,A4,A5,A6,A7,A8,A9,O3⟩
 have HG:Hid (G w dK):=G.trans g0 (G.trans O1 (G.trans g1 (G.trans g2 (G.trans g3 g4))))
 clear A1 A2 A3 A4 A5 A6 A7 A8 A9 O3 g0 O1 g1 g2 g3 g4 hz0
 cases hb1:(FloatKind.f64.format.order t k==some .gt)
 ·cases hb2:(FloatKind.f64.format.order t (Op.negFloat .f64 k)==some .lt)
  ·have HE:Hid (q1v k t=(0,false)):=by show _=_;unfold q1v oppF;rw[hb1,hb2];rfl
   go_wp2_with fail
   go_ret2
   exact⟨d1,d2,l,e1,e2,r,s,m,k,t,HF.out,by rw[HE.out];rfl,HG.out⟩
  ·have HE:Hid (q1v k t=(-1,true)):=by show _=_;unfold q1v oppF;rw[hb1,hb2];rfl
   go_wp2_with fail
   go_ret2
   exact⟨d1,d2,l,e1,e2,r,s,m,k,t,HF.out,by rw[HE.out];rfl,HG.out⟩
 ·have HE:Hid (q1v k t=(1,true)):=by show _=_;unfold q1v oppF;rw[hb1];rfl
  go_wp2_with fail
  go_ret2
  exact⟨d1,d2,l,e1,e2,r,s,m,k,t,HF.out,by rw[HE.out];rfl,HG.out⟩
end Go.Proofs.YtljkfjjchkehaaaGreatDoor.EN
namespace Go.Proofs.YtljkfjjchkehaaaGreatDoor.EN
open Go.RowKit
open Go.Proofs.YtljkfjjchkehaaaGreatDoor.EA (Rp IsRn top Z)
open BN
/-- r is the float nearest to P / Q units. -/
structure Rnd (P:Int) (Q r:Nat):Prop where
 lt:r<2^64
 le:FT.rung r≤FT.infR
 fin:FT.rung r<FT.infR→∃ N k:Nat,Z r=(if P<0 then -((N*2^k:Nat):Int) else ((N*2^k:Nat):Int))∧N≤2^53∧2*P.natAbs≤2*(N*2^k*Q)+2^k*Q∧2*(N*2^k*Q)≤2*P.natAbs+2^k*Q∧(k=0∨2^52*2^k*Q≤P.natAbs)
 small:∀ c,Rp c→c<top→P.natAbs≤c*Q→FT.rung r<FT.infR
 sg:P≠0→FT.neg r=decide (P<0)
theorem q73 {P:Int} {Q u:Nat} (s:Bool) (hQ:Q≠0) (hu:u=1074):Rnd P Q (if P=0 then FT.wrd s 0 else FT.wrd (decide (P<0)) (flV P.natAbs (Q*2^u))):=by
 have hU:=Nat.two_pow_pos u
 by_cases hP:P=0
 ·rw[if_pos hP,hP]
  have h63:(0:Nat)<2^63:=by omega
  have hr:=FT.wrd_rung s 0 h63
  have hZ:Z (FT.wrd s 0)=0:=EA.Z_zero.2 hr
  refine⟨FT.wrd_lt s 0 h63,by rw[hr];exact Nat.zero_le _,fun _=>⟨0,0,by rw[hZ];simp,by omega,by simp,by simp,Or.inl rfl⟩,fun _ _ _ _=>by rw[hr];unfold FT.infR;omega,fun h=>absurd rfl h⟩
 ·rw[if_neg hP]
  have hA:P.natAbs≠0:=by omega
  have hB:Q*2^u≠0:=Nat.ne_of_gt (Nat.mul_pos (by omega) hU)
  obtain⟨N,k,h1,h2,h3,h4,h5,h6,-⟩:=EA.flV_told hA hB u hu
  have e:∀ x,x*(Q*2^u)=x*Q*2^u:=fun x=>by ac_rfl
  have f4:2*P.natAbs≤2*(N*2^k*Q)+2^k*Q:=by
   refine Nat.le_of_mul_le_mul_right (c:=2^u) ?_ hU
   rw[e,e] at h4
   rw[Nat.add_mul,Nat.mul_assoc 2 P.natAbs,Nat.mul_assoc 2 (N*2^k*Q)]
   exact h4
  have f5:2*(N*2^k*Q)≤2*P.natAbs+2^k*Q:=by
   refine Nat.le_of_mul_le_mul_right (c:=2^u) ?_ hU
   rw[e,e] at h5
   rw[Nat.add_mul,Nat.mul_assoc 2 P.natAbs,Nat.mul_assoc 2 (N*2^k*Q)]
   exact h5
  have f6:k=0∨2^52*2^k*Q≤P.natAbs:=by
   rcases h6 with h|h
   ·exact Or.inl h
   ·refine Or.inr (Nat.le_of_mul_le_mul_right (c:=2^u) ?_ hU)
    rw[e] at h
    exact h
  have hv:=EA.v_made h2 h3
  have hle:=show flV P.natAbs (Q*2^u)≤FT.infR from Nat.min_le_right _ _
  have hlt:=EA.infR_lt
  have hsm:∀ c,Rp c→c<top→P.natAbs≤c*Q→k*2^52+N<FT.infR:=by
   intro c hc ht hp
   refine EA.lt_top.1 ?_
   rw[hv]
   have SI:0<Q:=by omega
   by_cases hcl:N*2^k≤c
   ·omega
   ·-- c < N * 2 ^ k, though the number is no greater than c
    exfalso
    have g1:c<N*2^k:=by omega
    -- c has at most 53 digits: it lies at least a step below
    have g3:c+2^k≤N*2^k∨k=0∨c<2^52*2^k:=by
     by_cases hc2:2^52*2^k≤c
     ·left
      obtain⟨q,hq⟩:=EA.rp_dvd hc hc2
      rw[hq,Nat.mul_comm] at g1 ⊢
      have:q<N:=Nat.lt_of_mul_lt_mul_right g1
      calc q*2^k+2^k=(q+1)*2^k:=by rw[Nat.add_mul,Nat.one_mul]
       _≤N*2^k:=Nat.mul_le_mul_right _ this
     ·right;right;omega
    rcases g3 with g3|g3|g3
    ·have h7:(c+2^k)*Q≤N*2^k*Q:=Nat.mul_le_mul_right _ g3
     rw[Nat.add_mul] at h7
     have h8:0<2^k*Q:=Nat.mul_pos (Nat.two_pow_pos k) SI
     omega
    ·subst g3
     have h7:(c+1)*Q≤N*2^0*Q:=Nat.mul_le_mul_right _ g1
     rw[Nat.add_mul] at h7
     simp at h7 f5
     omega
    ·rcases f6 with h|h
     ·subst h
      have h7:(c+1)*Q≤N*2^0*Q:=Nat.mul_le_mul_right _ g1
      rw[Nat.add_mul] at h7
      simp at h7 f5
      omega
     ·have h7:(c+1)*Q≤2^52*2^k*Q:=Nat.mul_le_mul_right _ g3
      rw[Nat.add_mul] at h7
      omega
  generalize k*2^52+N=kk at h1 hv hsm
  generalize flV P.natAbs (Q*2^u)=r at h1 hle ⊢
  have hr:=FT.wrd_rung (decide (P<0)) r (by omega)
  have hZ:=EA.Z_wrd (s:=decide (P<0)) (r:=r) (by omega)
  refine⟨FT.wrd_lt _ r (by omega),by rw[hr];exact hle,fun hx=> ?_,fun c h7 h8 h9=> ?_,fun _=>FT.wrd_neg _ r (by omega)⟩
  ·rw[hr] at hx
   obtain rfl:r=kk:=by omega
   rw[hv] at hZ
   refine⟨N,k,?_,h2,f4,f5,f6⟩
   rw[hZ]
   by_cases hx:P<0
   ·rw[decide_eq_true hx,if_pos hx,if_pos rfl]
   ·rw[decide_eq_false hx,if_neg hx,if_neg (by simp)]
  ·rw[hr]
   have:=hsm c h7 h8 h9
   omega
theorem q4U {o:Option Nat} {r q:Nat} (h:Any o r) (e:o=some q):r=q:=h.2.1 q e
theorem q89 {x y r:Nat} (hx:x<2^64) (hy:y<2^64) (fx:FT.rung x<FT.infR) (fy:FT.rung y<FT.infR) (h:Any (Ieee.double.add x y) r):Rnd (Z x+Z y) 1 r:=by
 obtain⟨m,e,hfx⟩:=Fin64.of hx fx
 obtain⟨n,f,gY⟩:=Fin64.of hy fy
 obtain⟨u,hu⟩:∃ u,u=1074:=⟨_,rfl⟩
 have hB:2^u≠0:=Nat.ne_of_gt (Nat.two_pow_pos u)
 have h1:=qaS hfx gY (A:=Z x+Z y) (B:=2^u) hB (EA.units2 (EA.fin_Z hfx u hu) (EA.fin_Z gY u hu))
 rw[q4U h h1]
 have:=q73 (P:=Z x+Z y) (Q:=1) (FT.neg x&&FT.neg y) (by omega) hu
 rw[Nat.one_mul] at this
 exact this
theorem q6r {x y r:Nat} (hx:x<2^64) (hy:y<2^64) (fx:FT.rung x<FT.infR) (fy:FT.rung y<FT.infR) (h:Any (Ieee.double.sub x y) r):Rnd (Z x-Z y) 1 r:=by
 obtain⟨m,e,hfx⟩:=Fin64.of hx fx
 obtain⟨n,f,gY⟩:=Fin64.of hy fy
 obtain⟨u,hu⟩:∃ u,u=1074:=⟨_,rfl⟩
 have hB:2^u≠0:=Nat.ne_of_gt (Nat.two_pow_pos u)
 have hE:(frD e:Int)≠0:=by have:=q1Q e;omega
 have hF:(frD f:Int)≠0:=by have:=q1Q f;omega
 have h2:frN (!FT.neg y) n f*((2^u:Nat):Int)=(-Z y)*(frD f:Nat):=by rw[EA.frN_not,Int.neg_mul,EA.fin_Z gY u hu,Int.neg_mul]
 have h1:=q8J (q1y (FT.neg x) m e) (q1y (!FT.neg y) n f) hE hF (A:=Z x+ -Z y) (B:=2^u) hB (EA.units2 (EA.fin_Z hfx u hu) h2)
 have h3:Ieee.double.sub x y=some (if Z x+ -Z y=0 then FT.wrd (FT.neg x&& !FT.neg y) 0 else FT.wrd (decide (Z x+ -Z y<0)) (flV (Z x+ -Z y).natAbs (2^u))):=by
  refine Eq.trans ?_ h1
  unfold Ieee.Format.sub
  rw[q1S hfx,q1S gY]
  rfl
 rw[q4U h h3,Int.sub_eq_add_neg]
 have:=q73 (P:=Z x+ -Z y) (Q:=1) (FT.neg x&& !FT.neg y) (by omega) hu
 rw[Nat.one_mul] at this
 exact this
theorem q7B {x y r u:Nat} (hu:u=1074) (hx:x<2^64) (hy:y<2^64) (fx:FT.rung x<FT.infR) (fy:FT.rung y<FT.infR) (h:Any (Ieee.double.mul x y) r):Rnd (Z x*Z y) (2^u) r:=by
 obtain⟨m,e,hfx⟩:=Fin64.of hx fx
 obtain⟨n,f,gY⟩:=Fin64.of hy fy
 have hU:=Nat.two_pow_pos u
 have hB:2^u*2^u≠0:=Nat.ne_of_gt (Nat.mul_pos hU hU)
 have h1:=EA.fin_Z hfx u hu
 have h2:=EA.fin_Z gY u hu
 have h3:=qaH hfx gY (A:=Z x*Z y) (B:=2^u*2^u) hB (by
  push_cast
  push_cast at h1 h2
  rw[show frN (FT.neg x) m e*frN (FT.neg y) n f*((2:Int)^u*2^u)=(frN (FT.neg x) m e*2^u)*(frN (FT.neg y) n f*2^u) from by ac_rfl,h1,h2]
  ac_rfl)
 rw[q4U h h3]
 exact q73 _ (Nat.ne_of_gt hU) hu
theorem Rnd.isRn {z:Int} {Q r:Nat} (h:Rnd (z*(Q:Int)) Q r) (hQ:0<Q) (hf:FT.rung r<FT.infR):∃ v,IsRn z.natAbs v∧Z r=if z<0 then -(v:Int) else v:=by
 obtain⟨N,k,h1,h2,h3,h4,h5⟩:=h.fin hf
 have hab:(z*(Q:Int)).natAbs=z.natAbs*Q:=by rw[Int.natAbs_mul,Int.natAbs_natCast]
 have hsg:(z*(Q:Int)<0)=(z<0):=by
  apply propext
  have SH:(0:Int)<Q:=by omega
  constructor
  ·intro hn
   by_cases hz:z<0
   ·exact hz
   ·have:=Int.mul_nonneg (show 0≤z by omega) (show (0:Int)≤Q by omega);omega
  ·intro hn
   exact Int.mul_neg_of_neg_of_pos hn SH
 rw[hab] at h3 h4 h5
 simp only[hsg] at h1
 refine⟨N*2^k,⟨N,k,rfl,h2,?_,?_,?_⟩,h1⟩
 ·refine Nat.le_of_mul_le_mul_right (c:=Q) ?_ hQ
  rw[Nat.add_mul,Nat.mul_assoc,Nat.mul_assoc 2 (N*2^k) Q];exact h3
 ·refine Nat.le_of_mul_le_mul_right (c:=Q) ?_ hQ
  rw[Nat.add_mul,Nat.mul_assoc,Nat.mul_assoc 2 z.natAbs Q];exact h4
 ·rcases h5 with h|h
  ·exact Or.inl h
  ·exact Or.inr (Nat.le_of_mul_le_mul_right h hQ)
theorem Rnd.exact {z:Int} {Q r:Nat} (h:Rnd (z*(Q:Int)) Q r) (hQ:0<Q) (hr:Rp z.natAbs) (ht:z.natAbs<top):FT.rung r<FT.infR∧Z r=z:=by
 have hf:=h.small _ hr ht (by rw[Int.natAbs_mul,Int.natAbs_natCast];exact Nat.le_refl _)
 obtain⟨v,hv,hz⟩:=h.isRn hQ hf
 refine⟨hf,?_⟩
 rw[hz,hv.self hr]
 split<;>omega
theorem qba {b:Nat} (h:b<2^64):Z (oppF b)= -Z b∧FT.rung (oppF b)=FT.rung b:=by
 have hr:=FT.rung_lt b
 have e:oppF b=FT.wrd (!FT.neg b) (FT.rung b):=by
  unfold oppF
  rw[q2S b h]
  unfold negV FT.wrd
  rcases FT.neg_cases b h with ⟨h1,h2⟩|⟨h1,h2⟩
  ·rw[h1]
   simp only[if_true,Bool.not_true,Bool.false_eq_true,if_false]
   omega
  ·rw[h1]
   simp only[Bool.false_eq_true,if_false,Bool.not_false,if_true]
   omega
 rw[e,EA.Z_wrd hr,FT.wrd_rung _ _ hr]
 refine⟨?_,rfl⟩
 unfold EA.Z
 cases FT.neg b<;>simp
theorem q7w {k:Nat} (hk:k=971):Z 4377498837804122112=((2^52*2^k:Nat):Int)∧FT.rung 4377498837804122112<FT.infR:=by
 have hv:=EA.v_made (N:=2^52) (k:=k) (by omega) (Or.inr (Nat.le_refl _))
 have e:4377498837804122112=FT.wrd false (k*2^52+2^52):=by rw[hk];rfl
 have hlt:k*2^52+2^52<FT.infR:=by unfold FT.infR;omega
 have h63:k*2^52+2^52<2^63:=by omega
 rw[e,EA.Z_wrd h63,FT.wrd_rung _ _ h63,hv]
 exact⟨rfl,hlt⟩
theorem z_four:Z 4=4∧FT.rung 4<FT.infR:=by decide+kernel
/-- How near a rounded whole number is. -/
theorem rel1 {P:Int} {r:Nat} (h:Rnd P 1 r) (hf:FT.rung r<FT.infR):∃ v:Nat,Z r=(if P<0 then -(v:Int) else v)∧9007199254740992*v≤9007199254740992*P.natAbs+P.natAbs∧9007199254740992*P.natAbs≤9007199254740992*v+P.natAbs:=by
 obtain⟨N,k,h1,h2,h3,h4,h5⟩:=h.fin hf
 refine⟨N*2^k,h1,?_⟩
 rw[Nat.mul_one,Nat.mul_one] at h3 h4
 generalize N*2^k=v at *
 rcases h5 with h5|h5
 ·subst h5
  omega
 ·rw[Nat.mul_one] at h5
  generalize 2^k=t at *
  omega
theorem relQ {P:Int} {Q r:Nat} (h:Rnd P Q r) (hf:FT.rung r<FT.infR):∃ v:Nat,Z r=(if P<0 then -(v:Int) else v)∧((2*P.natAbs≤2*(v*Q)+Q∧2*(v*Q)≤2*P.natAbs+Q)∨(9007199254740992*(v*Q)≤9007199254740992*P.natAbs+P.natAbs∧9007199254740992*P.natAbs≤9007199254740992*(v*Q)+P.natAbs)):=by
 obtain⟨N,k,h1,h2,h3,h4,h5⟩:=h.fin hf
 refine⟨N*2^k,h1,?_⟩
 generalize N*2^k*Q=w at *
 rcases h5 with h5|h5
 ·subst h5
  left
  rw[Nat.pow_zero,Nat.one_mul] at h3 h4
  omega
 ·right
  rw[Nat.mul_assoc] at h5
  generalize 2^k*Q=t at *
  omega
theorem mag {a a' b b' Y U:Nat} (h1:9007199254740992*a'≤9007199254740992*a+a) (h2:9007199254740992*a≤9007199254740992*a'+a) (h3:9007199254740992*b'≤9007199254740992*b+b) (h4:9007199254740992*b≤9007199254740992*b'+b)
  (h5:(2*(a'*b')≤2*Y+U∧2*Y≤2*(a'*b')+U)∨(9007199254740992*Y≤9007199254740992*(a'*b')+a'*b'∧9007199254740992*(a'*b')≤9007199254740992*Y+a'*b')):
  36028797018963968*(a*b)≤36028797018963968*Y+14*Y+27021597764222976*U∧36028797018963968*Y≤36028797018963968*(a*b)+14*Y+27021597764222976*U:=by
 have u1:(9007199254740992*a')*(9007199254740992*b')≤(9007199254740993*a)*(9007199254740993*b):=Nat.mul_le_mul (by omega) (by omega)
 have u2:(9007199254740991*a)*(9007199254740991*b)≤(9007199254740992*a')*(9007199254740992*b'):=Nat.mul_le_mul (by omega) (by omega)
 have e:∀ c x y:Nat,(c*x)*(c*y)=c*c*(x*y):=fun c x y=>by ac_rfl
 rw[e,e] at u1 u2
 generalize a*b=p at *
 generalize a'*b'=p' at *
 rcases h5 with ⟨g1,g2⟩|⟨g1,g2⟩<;>constructor<;>omega
theorem q8L {D1 D2:Int} {v w:Nat}:(if D1<0 then -(v:Int) else v)*(if D2<0 then -(w:Int) else w)=if (D1<0)=(D2<0) then ((v*w:Nat):Int) else -((v*w:Nat):Int):=by
 by_cases h1:D1<0<;>by_cases h2:D2<0<;>simp [h1,h2,Int.neg_mul,Int.mul_neg]
theorem q8F {D:Int}:D=if D<0 then -(D.natAbs:Int) else D.natAbs:=by split<;>omega
/-- A product of two differences, each rounded. -/
theorem q3V {D1 D2:Int} {d1 d2 l U:Nat} (r1:Rnd D1 1 d1) (r2:Rnd D2 1 d2) (r3:Rnd (Z d1*Z d2) U l) (f1:FT.rung d1<FT.infR) (f2:FT.rung d2<FT.infR) (f3:FT.rung l<FT.infR):
  36028797018963968*(Z l*U-D1*D2)≤14*(((Z l).natAbs*U:Nat):Int)+27021597764222976*U∧36028797018963968*(D1*D2-Z l*U)≤14*(((Z l).natAbs*U:Nat):Int)+27021597764222976*U:=by
 obtain⟨v,hv,v1,v2⟩:=rel1 r1 f1
 obtain⟨w,hw,w1,w2⟩:=rel1 r2 f2
 obtain⟨q,hq,hq2⟩:=relQ r3 f3
 have hp:Z d1*Z d2=if (D1<0)=(D2<0) then ((v*w:Nat):Int) else -((v*w:Nat):Int):=by rw[hv,hw,q8L]
 have hP:D1*D2=if (D1<0)=(D2<0) then ((D1.natAbs*D2.natAbs:Nat):Int) else -((D1.natAbs*D2.natAbs:Nat):Int):=by
  conv=>lhs;rw[q8F (D:=D1),q8F (D:=D2)]
  exact q8L
 have hab:(Z d1*Z d2).natAbs=v*w:=by rw[hp];split<;>omega
 rw[hab] at hq2
 have hm:=mag v1 v2 w1 w2 (Y:=q*U) (U:=U) (by
  rcases hq2 with ⟨g1,g2⟩|⟨g1,g2⟩
  ·exact Or.inl ⟨g1,g2⟩
  ·exact Or.inr ⟨g1,g2⟩)
 have hz:(Z l).natAbs=q:=by rw[hq];split<;>omega
 have SG:Z l*(U:Int)=if Z d1*Z d2<0 then -((q*U:Nat):Int) else ((q*U:Nat):Int):=by
  rw[hq]
  split
  ·rw[Int.neg_mul,Int.natCast_mul]
  ·rw[Int.natCast_mul]
 rw[hz,hP,SG]
 by_cases hs:(D1<0)=(D2<0)
 ·rw[if_pos hs] at hp ⊢
  rw[if_neg (by omega)]
  generalize D1.natAbs*D2.natAbs=p at *
  generalize q*U=Y at *
  omega
 ·rw[if_neg hs] at hp ⊢
  by_cases h0:v*w=0
  ·rw[if_neg (by rw[hp,h0];simp)]
   rw[h0] at hq2
   have hq0:q*U=0∨q*U≤U:=by omega
   generalize D1.natAbs*D2.natAbs=p at *
   rcases hq2 with ⟨g1,g2⟩|⟨g1,g2⟩
   ·have:q*U=0:=by
     rcases Nat.eq_zero_or_pos q with h|h
     ·rw[h,Nat.zero_mul]
     ·have:=Nat.le_mul_of_pos_left U h
      generalize q*U=Y at *
      omega
    rw[this] at hm ⊢
    omega
   ·have:q*U=0:=by omega
    rw[this] at hm ⊢
    omega
  ·rw[if_pos (by omega)]
   generalize D1.natAbs*D2.natAbs=p at *
   generalize q*U=Y at *
   omega
/-- What is beyond the bound. -/
theorem beyond {S s m k T t V U:Nat} (hV:0<V) (hU:U=2251799813685248*V) (hs:9007199254740992*S≤9007199254740992*s+S) (hm:2*(s*V)≤2*(m*U)+U∨9007199254740992*(s*V)≤9007199254740992*(m*U)+s*V)
  (hk:9007199254740992*(m+4)≤9007199254740992*k+(m+4)) (ht:9007199254740992*t≤9007199254740992*T+T) (h:k<t):14*S+54043195528445952<36028797018963968*T:=by
 subst hU
 have hm2:2*s≤4503599627370496*m+2251799813685248∨9007199254740992*s≤9007199254740992*(2251799813685248*m)+s:=by
  rcases hm with hm|hm
  ·left
   refine Nat.le_of_mul_le_mul_right (c:=V) ?_ hV
   rw[Nat.add_mul]
   have e1:2*s*V=2*(s*V):=Nat.mul_assoc _ _ _
   have e2:4503599627370496*m*V=2*(m*(2251799813685248*V)):=by
    rw[show m*(2251799813685248*V)=2251799813685248*(m*V) from by ac_rfl,Nat.mul_assoc];omega
   omega
  ·right
   refine Nat.le_of_mul_le_mul_right (c:=V) ?_ hV
   rw[Nat.add_mul]
   have e1:9007199254740992*s*V=9007199254740992*(s*V):=Nat.mul_assoc _ _ _
   have e2:9007199254740992*(2251799813685248*m)*V=9007199254740992*(m*(2251799813685248*V)):=by
    rw[show m*(2251799813685248*V)=2251799813685248*(m*V) from by ac_rfl,Nat.mul_assoc,Nat.mul_assoc]
   omega
 rcases hm2 with hm2|hm2<;>omega
theorem q3h {r:Nat} (h:FT.nan r=true):FT.infR<FT.rung r:=of_decide_eq_true h
theorem q3L (s:Bool):FT.rung (FT.wrd s FT.infR)=FT.infR∧FT.neg (FT.wrd s FT.infR)=s:=⟨FT.wrd_rung _ _ EA.infR_lt,FT.wrd_neg _ _ EA.infR_lt⟩
theorem q4l {x y r:Nat} (h:Any (Ieee.double.add x y) r):(FT.rung x<FT.infR∧FT.rung y<FT.infR)∨FT.nan r=true∨(¬ (FT.rung x<FT.infR∧FT.rung y<FT.infR)∧FT.rung r=FT.infR∧(FT.neg r=FT.neg x∨FT.neg r=FT.neg y)):=by
 have hn:Ieee.double.add x y=none→FT.nan r=true:=h.2.2
 have hi:∀ s,Ieee.double.add x y=some (Ieee.double.write (.infinity s))→FT.rung r=FT.infR∧FT.neg r=s:=fun s e=>by
  have:=h.2.1 _ e
  rw[this,q2N]
  exact q3L s
 unfold Ieee.Format.add at hn hi
 rcases q0R x with ⟨ha,f,ra⟩|⟨ha,ia,ra⟩|⟨ha,fa,m,p,ra⟩
 ·right;left;exact hn (by rw[ra];rfl)
 ·rcases q0R y with ⟨hb,f2,rb⟩|⟨hb,ib,rb⟩|⟨hb,fb,m2,p2,rb⟩
  ·right;left;exact hn (by rw[ra,rb];rfl)
  ·by_cases hs:FT.neg x=FT.neg y
   ·right;right
    obtain⟨h1,h2⟩:=hi (FT.neg x) (by rw[ra,rb];simp [Ieee.Datum.sum,hs])
    exact⟨by omega,h1,Or.inl h2⟩
   ·right;left;exact hn (by rw[ra,rb];simp [Ieee.Datum.sum,hs])
  ·right;right
   obtain⟨h1,h2⟩:=hi (FT.neg x) (by rw[ra,rb];rfl)
   exact⟨by omega,h1,Or.inl h2⟩
 ·rcases q0R y with ⟨hb,f2,rb⟩|⟨hb,ib,rb⟩|⟨hb,fb,m2,p2,rb⟩
  ·right;left;exact hn (by rw[ra,rb];rfl)
  ·right;right
   obtain⟨h1,h2⟩:=hi (FT.neg y) (by rw[ra,rb];rfl)
   exact⟨by omega,h1,Or.inr h2⟩
  ·exact Or.inl ⟨fa,fb⟩
theorem q3B {x y r:Nat} (h:Any (Ieee.double.sub x y) r) (hr:FT.rung r<FT.infR):FT.rung x<FT.infR∧FT.rung y<FT.infR:=by
 have hn:Ieee.double.sub x y=none→False:=fun e=>by have:=q3h (h.2.2 e);omega
 have hi:∀ s,Ieee.double.sub x y=some (Ieee.double.write (.infinity s))→False:=fun s e=>by
  have:=h.2.1 _ e
  rw[this,q2N,(q3L s).1] at hr
  omega
 unfold Ieee.Format.sub at hn hi
 rcases q0R x with ⟨ha,f,ra⟩|⟨ha,-,ra⟩|⟨ha,fa,m,p,ra⟩
 ·exact(hn (by rw[ra];rfl)).elim
 ·rcases q0R y with ⟨hb,f2,rb⟩|⟨hb,-,rb⟩|⟨hb,fb,m2,p2,rb⟩
  ·exact(hn (by rw[ra,rb];rfl)).elim
  ·by_cases hs:FT.neg x= !FT.neg y
   ·exact(hi (FT.neg x) (by rw[ra,rb];simp [Ieee.Datum.sum,Ieee.Datum.opposite,hs])).elim
   ·exact(hn (by rw[ra,rb];simp [Ieee.Datum.sum,Ieee.Datum.opposite,hs])).elim
  ·exact(hi (FT.neg x) (by rw[ra,rb];rfl)).elim
 ·rcases q0R y with ⟨hb,f2,rb⟩|⟨hb,-,rb⟩|⟨hb,fb,m2,p2,rb⟩
  ·exact(hn (by rw[ra,rb];rfl)).elim
  ·exact(hi (!FT.neg y) (by rw[ra,rb];rfl)).elim
  ·exact⟨fa,fb⟩
theorem q4c {x y r:Nat} (h:Any (Ieee.double.mul x y) r):(FT.rung x<FT.infR∧FT.rung y<FT.infR)∨FT.nan r=true∨(¬ (FT.rung x<FT.infR∧FT.rung y<FT.infR)∧FT.rung r=FT.infR∧FT.neg r=(FT.neg x^^FT.neg y)):=by
 have hn:Ieee.double.mul x y=none→FT.nan r=true:=h.2.2
 have hi:∀ s,Ieee.double.mul x y=some (Ieee.double.write (.infinity s))→FT.rung r=FT.infR∧FT.neg r=s:=fun s e=>by
  have:=h.2.1 _ e
  rw[this,q2N]
  exact q3L s
 unfold Ieee.Format.mul at hn hi
 rcases q0R x with ⟨ha,f,ra⟩|⟨ha,ia,ra⟩|⟨ha,fa,m,p,ra⟩
 ·right;left;exact hn (by rw[ra];rfl)
 ·rcases q0R y with ⟨hb,f2,rb⟩|⟨hb,ib,rb⟩|⟨hb,fb,m2,p2,rb⟩
  ·right;left;exact hn (by rw[ra,rb];rfl)
  ·rcases q3R ha hb (Or.inl ia) with e|e
   ·right;left;exact hn (by rw[e];rfl)
   ·right;right;exact⟨by omega,hi _ (by rw[e];rfl)⟩
  ·rcases q3R ha hb (Or.inl ia) with e|e
   ·right;left;exact hn (by rw[e];rfl)
   ·right;right;exact⟨by omega,hi _ (by rw[e];rfl)⟩
 ·rcases q0R y with ⟨hb,f2,rb⟩|⟨hb,ib,rb⟩|⟨hb,fb,m2,p2,rb⟩
  ·right;left;exact hn (by rw[ra,rb];rfl)
  ·rcases q3R ha hb (Or.inr ib) with e|e
   ·right;left;exact hn (by rw[e];rfl)
   ·right;right;exact⟨by omega,hi _ (by rw[e];rfl)⟩
  ·exact Or.inl ⟨fa,fb⟩
theorem q6f {x y r:Nat} (h:Any (Ieee.double.mul x y) r) (hr:FT.rung r<FT.infR):FT.rung x<FT.infR∧FT.rung y<FT.infR:=by
 rcases q4c h with h|h|h
 ·exact h
 ·have:=q3h h;omega
 ·omega
theorem q1i (x:Nat):FT.rung (FT.rung x)=FT.rung x∧FT.neg (FT.rung x)=false∧Z (FT.rung x)=((Z x).natAbs:Int):=by
 have hr:=FT.rung_lt x
 refine⟨FT.rung_small hr,FT.neg_small hr,?_⟩
 rw[EA.Z_abs]
 unfold EA.Z
 rw[FT.rung_small hr,FT.neg_small hr]
 simp
/-- The bound is no number, or infinite, or finite and not below 0. -/
theorem q4R {l r s m k:Nat} (h7:Any (Ieee.double.add (FT.rung l) (FT.rung r)) s) (h8:Any (Ieee.double.mul s 4377498837804122112) m) (h9:Any (Ieee.double.add m 4) k):FT.nan k=true∨(FT.rung k=FT.infR∧FT.neg k=false)∨
  (FT.rung k<FT.infR∧FT.rung m<FT.infR∧FT.rung s<FT.infR∧FT.rung l<FT.infR∧FT.rung r<FT.infR):=by
 obtain⟨j,hj⟩:∃ j,j=971:=⟨_,rfl⟩
 obtain⟨u,hu⟩:∃ u,u=1074:=⟨_,rfl⟩
 obtain⟨hc1,hc2⟩:=q7w hj
 have hll:=q1i l
 have hrr:=q1i r
 have nK:FT.neg 4377498837804122112=false:=by decide+kernel
 have n4:FT.neg 4=false:=by decide+kernel
 -- a rounded number that is not below 0
 have pos:∀ {P:Int} {Q q:Nat},Rnd P Q q→0≤P→FT.rung q<FT.infR∨(FT.rung q=FT.infR∧FT.neg q=false):=by
  intro P Q q hR hP
  by_cases hq:FT.rung q<FT.infR
  ·exact Or.inl hq
  ·right
   have hle:=hR.le
   refine⟨by omega,?_⟩
   by_cases h0:P=0
   ·exfalso
    refine hq (hR.small 0 (EA.rp_small (by omega)) EA.top_pos (by rw[h0];simp))
   ·rw[hR.sg h0]
    exact decide_eq_false (by omega)
 have S:FT.nan s=true∨(FT.rung s=FT.infR∧FT.neg s=false)∨(FT.rung s<FT.infR∧0≤Z s∧FT.rung l<FT.infR∧FT.rung r<FT.infR):=by
  rcases q4l h7 with ⟨f1,f2⟩|h|⟨nf,h,hs⟩
  ·have hR:=q89 (by have:=FT.rung_lt l;omega) (by have:=FT.rung_lt r;omega) f1 f2 h7
   have hP:0≤Z (FT.rung l)+Z (FT.rung r):=by rw[hll.2.2,hrr.2.2];omega
   rw[hll.1] at f1
   rw[hrr.1] at f2
   rcases pos hR hP with h|h
   ·right;right
    refine⟨h,?_,f1,f2⟩
    obtain⟨v,hv,-⟩:=rel1 hR h
    rw[hv,if_neg (by omega)]
    omega
   ·exact Or.inr (Or.inl h)
  ·exact Or.inl h
  ·right;left
   rw[hll.2.1,hrr.2.1] at hs
   exact⟨h,by rcases hs with hs|hs<;>exact hs⟩
 have M:FT.nan m=true∨(FT.rung m=FT.infR∧FT.neg m=false)∨(FT.rung m<FT.infR∧0≤Z m∧FT.rung s<FT.infR∧FT.rung l<FT.infR∧FT.rung r<FT.infR):=by
  rcases q4c h8 with ⟨f1,f2⟩|h|⟨nf,h,hs⟩
  ·rcases S with h|h|⟨s1,s2,s3,s4⟩
   ·have:=q3h h;omega
   ·omega
   ·have hR:=q7B hu h7.1 (by decide) f1 f2 h8
    have hP:0≤Z s*Z 4377498837804122112:=Int.mul_nonneg s2 (by rw[hc1];omega)
    rcases pos hR hP with h|h
    ·right;right
     refine⟨h,?_,s1,s3,s4⟩
     obtain⟨v,hv,-⟩:=relQ hR h
     rw[hv,if_neg (by omega)]
     omega
    ·exact Or.inr (Or.inl h)
  ·exact Or.inl h
  ·rcases S with h2|⟨-,h2⟩|⟨s1,s2,s3,s4⟩
   ·left
    refine h8.2.2 ?_
    unfold Ieee.Format.mul
    rw[FT.read_nan (q3h h2)]
    rfl
   ·right;left
    rw[h2,nK] at hs
    exact⟨h,hs⟩
   ·exact(nf ⟨s1,hc2⟩).elim
 rcases q4l h9 with ⟨f1,f2⟩|h|⟨nf,h,hs⟩
 ·rcases M with h|h|⟨m1,m2,m3,m4,m5⟩
  ·have:=q3h h;omega
  ·omega
  ·have hR:=q89 h8.1 (by decide) f1 f2 h9
   rcases pos hR (by rw[z_four.1];omega) with h|h
   ·exact Or.inr (Or.inr ⟨h,m1,m3,m4,m5⟩)
   ·exact Or.inr (Or.inl h)
 ·exact Or.inl h
 ·rcases M with h2|⟨h2,h3⟩|⟨m1,m2,m3,m4,m5⟩
  ·left
   refine h9.2.2 ?_
   unfold Ieee.Format.add
   rw[FT.read_nan (q3h h2)]
   rfl
  ·right;left
   rw[h3,n4] at hs
   exact⟨h,by rcases hs with hs|hs<;>exact hs⟩
  ·exact(nf ⟨m1,z_four.2⟩).elim
theorem q7L:∃ c,Rp c∧2≤c∧c<top∧top=2*c:=by
 obtain⟨k,hk⟩:∃ k,k=2045:=⟨_,rfl⟩
 have h1:=EA.v_made (N:=2^52) (k:=k) (by omega) (Or.inr (Nat.le_refl _))
 have h2:=EA.v_made (N:=2^52) (k:=k+1) (by omega) (Or.inr (Nat.le_refl _))
 have hlt:k*2^52+2^52<FT.infR:=by unfold FT.infR;omega
 have ht:=EA.lt_top.2 hlt
 have e:FT.infR=(k+1)*2^52+2^52:=by unfold FT.infR;omega
 have htop:top=2^52*2^(k+1):=by unfold top;rw[e,h2]
 rw[h1] at ht
 refine⟨2^52*2^k,EA.rp_of (by omega),?_,ht,?_⟩
 ·have:=Nat.two_pow_pos k
  omega
 ·rw[htop,Nat.pow_succ]
  omega
/-- How great the difference is where it is beyond the bound. -/
theorem q9l {l r s m k t:Nat} (fl:FT.rung l<FT.infR) (fr:FT.rung r<FT.infR) (fs:FT.rung s<FT.infR) (fm:FT.rung m<FT.infR) (fk:FT.rung k<FT.infR) (hl:l<2^64) (hr:r<2^64)
  (h7:Any (Ieee.double.add (FT.rung l) (FT.rung r)) s) (h8:Any (Ieee.double.mul s 4377498837804122112) m) (h9:Any (Ieee.double.add m 4) k) (h10:Any (Ieee.double.sub l r) t):
  FT.key k=FT.rung k∧(FT.rung k<FT.rung t→Z l-Z r≠0∧FT.neg t=decide (Z l-Z r<0)∧14*((Z l).natAbs+(Z r).natAbs)+54043195528445952<36028797018963968*(Z l-Z r).natAbs):=by
 obtain⟨j,hj⟩:∃ j,j=971:=⟨_,rfl⟩
 obtain⟨u,hu⟩:∃ u,u=1074:=⟨_,rfl⟩
 obtain⟨hc1,hc2⟩:=q7w hj
 have hll:=q1i l
 have hrr:=q1i r
 have r7:=q89 (by have:=FT.rung_lt l;omega) (by have:=FT.rung_lt r;omega) (by rw[hll.1];exact fl) (by rw[hrr.1];exact fr) h7
 rw[hll.2.2,hrr.2.2] at r7
 obtain⟨vs,hvs,-,s2⟩:=rel1 r7 fs
 rw[if_neg (by omega)] at hvs
 rw[show ((((Z l).natAbs:Int)+(Z r).natAbs)).natAbs=(Z l).natAbs+(Z r).natAbs from by omega] at s2
 have r8:=q7B hu h7.1 (by decide) fs hc2 h8
 rw[hvs,hc1,← Int.natCast_mul] at r8
 obtain⟨vm,fw,hm⟩:=relQ r8 fm
 rw[if_neg (by omega)] at fw
 rw[Int.natAbs_natCast] at hm
 have r9:=q89 h8.1 (by decide) fm z_four.2 h9
 rw[fw,z_four.1] at r9
 obtain⟨vk,hvk,-,k2⟩:=rel1 r9 fk
 rw[if_neg (by omega)] at hvk
 rw[show ((vm:Int)+4).natAbs=vm+4 from by omega] at k2
 have BQ:=q6r hl hr fl fr h10
 have hkk:FT.key k=FT.rung k:=by
  unfold FT.key
  cases hn:FT.neg k
  ·rfl
  ·have h0:Z k=0:=by
    have h1:Z k= -(FT.v (FT.rung k):Int):=by unfold EA.Z;rw[hn];rfl
    omega
   rw[EA.Z_zero.1 h0]
   rfl
 refine⟨hkk,fun hkt=> ?_⟩
 have hT0:Z l-Z r≠0:=by
  intro h0
  have ft:=BQ.small 0 (EA.rp_small (by omega)) EA.top_pos (by rw[h0];simp)
  obtain⟨v,hv,v1,-⟩:=rel1 BQ ft
  rw[h0] at hv v1
  have:v=0:=by simp at v1;omega
  rw[this] at hv
  have:=EA.Z_zero.1 (by simpa using hv)
  omega
 refine⟨hT0,BQ.sg hT0,?_⟩
 have SF:2^u=2251799813685248*(2^52*2^j):=by
  rw[show u=51+(52+j) from by omega,Nat.pow_add,Nat.pow_add]
 by_cases ft:FT.rung t<FT.infR
 ·obtain⟨vt,o6,t1,-⟩:=rel1 BQ ft
  have hlt:vk<vt:=by
   have e1:FT.v (FT.rung k)=vk:=by rw[← EA.Z_abs,hvk];omega
   have e2:FT.v (FT.rung t)=vt:=by rw[← EA.Z_abs,o6];split<;>omega
   have:=FT.v_lt hkt
   omega
  exact beyond (Nat.mul_pos (Nat.two_pow_pos 52) (Nat.two_pow_pos j)) SF s2 (by
   rcases hm with ⟨g1,-⟩|⟨-,g2⟩
   ·exact Or.inl g1
   ·exact Or.inr g2) k2 t1 hlt
 ·obtain⟨c,c1,c2,c3,c4⟩:=q7L
  have hgt:¬ (Z l-Z r).natAbs≤c:=fun hle=>ft (BQ.small c c1 c3 (by omega))
  have o6:vs<top:=by
   have e1:FT.v (FT.rung s)=vs:=by rw[← EA.Z_abs,hvs];omega
   rw[← e1]
   exact EA.lt_top.2 fs
  omega
theorem q7l {ax ay bx b2 cx cy d1 d2 l e1 e2 r s m k t:Nat} (w1:ax<2^64) (w2:ay<2^64) (w3:bx<2^64) (w4:b2<2^64) (w5:cx<2^64) (w6:cy<2^64) (h:FastBy ax ay bx b2 cx cy d1 d2 l e1 e2 r s m k t) (hs:(q1v k t).2=true):
  (FT.rung ax<FT.infR∧FT.rung ay<FT.infR∧FT.rung bx<FT.infR∧FT.rung b2<FT.infR∧FT.rung cx<FT.infR∧FT.rung cy<FT.infR)∧(q1v k t).1=(q2g ax ay bx b2 cx cy).sign:=by
 obtain⟨o1,o2⟩:=qba h.a9.1
 have hle:∀ x,FT.nan x=false→FT.rung x≤FT.infR:=fun x hx=>by
  have:=of_decide_eq_false hx
  omega
 -- what the order of the two says
 have key:(FT.nan t=false∧FT.nan k=false∧FT.key k<FT.key t∧(q1v k t).1=1)∨(FT.nan t=false∧FT.nan k=false∧FT.key t< -FT.key k∧(q1v k t).1= -1):=by
  unfold q1v at hs ⊢
  by_cases g1:(FloatKind.f64.format.order t k==some .gt)=true
  ·left
   rw[if_pos g1]
   rw[FT.ord_f] at g1
   cases hn:(FT.nan t||FT.nan k)
   ·rw[hn] at g1
    obtain⟨n1,n2⟩:=Bool.or_eq_false_iff.1 hn
    refine⟨n1,n2,?_,rfl⟩
    have:compare (FT.key t) (FT.key k)= .gt:=by simpa using g1
    exact Int.compare_eq_gt.1 this
   ·rw[hn] at g1;cases g1
  ·rw[if_neg g1] at hs ⊢
   by_cases g2:(FloatKind.f64.format.order t (oppF k)==some .lt)=true
   ·right
    rw[if_pos g2]
    rw[FT.ord_f] at g2
    cases hn:(FT.nan t||FT.nan (oppF k))
    ·rw[hn] at g2
     obtain⟨n1,n2⟩:=Bool.or_eq_false_iff.1 hn
     have nk:FT.nan k=false:=by unfold FT.nan at n2 ⊢;rw[o2] at n2;exact n2
     refine⟨n1,nk,?_,rfl⟩
     have:compare (FT.key t) (FT.key (oppF k))= .lt:=by simpa using g2
     have h3:=Int.compare_eq_lt.1 this
     have e:FT.key (oppF k)= -FT.key k:=by
      have BR:=h.a9.1
      have hr:=FT.rung_lt k
      have e:oppF k=FT.wrd (!FT.neg k) (FT.rung k):=by
       unfold oppF
       rw[q2S k BR]
       unfold negV FT.wrd
       rcases FT.neg_cases k BR with ⟨h1,h2⟩|⟨h1,h2⟩
       ·rw[h1]
        simp only[if_true,Bool.not_true,Bool.false_eq_true,if_false]
        omega
       ·rw[h1]
        simp only[Bool.false_eq_true,if_false,Bool.not_false,if_true]
        omega
      unfold FT.key
      rw[o2,e,FT.wrd_neg _ _ hr]
      cases FT.neg k<;>simp
     rw[e] at h3
     exact h3
    ·rw[hn] at g2;cases g2
   ·rw[if_neg g2] at hs;cases hs
 have nk:FT.nan k=false:=by rcases key with ⟨-,h,-⟩|⟨-,h,-⟩<;>exact h
 have nt:FT.nan t=false:=by rcases key with ⟨h,-⟩|⟨h,-⟩<;>exact h
 have TT:=hle t nt
 rcases q4R h.a7 h.a8 h.a9 with hb|⟨hb1,hb2⟩|⟨fk,fm,fs,fl,fr⟩
 ·rw[nk] at hb;cases hb
 ·exfalso
  have e1:FT.key k=FT.infR:=by unfold FT.key;rw[hb2,hb1];rfl
  rw[e1] at key
  have e2:FT.key t≤FT.infR∧ -(FT.infR:Int)≤FT.key t:=by unfold FT.key;split<;>omega
  rcases key with ⟨-,-,hk,-⟩|⟨-,-,hk,-⟩<;>omega
 ·obtain⟨fd1,Kh⟩:=q6f h.a3 fl
  obtain⟨Ki,Kj⟩:=q6f h.a6 fr
  obtain⟨q3,q1⟩:=q3B h.a1 fd1
  obtain⟨q6,q2⟩:=q3B h.a2 Kh
  obtain⟨q4,-⟩:=q3B h.a4 Ki
  obtain⟨q5,-⟩:=q3B h.a5 Kj
  refine⟨⟨q1,q2,q3,q4,q5,q6⟩,?_⟩
  obtain⟨u,hu⟩:∃ u,u=1074:=⟨_,rfl⟩
  have hU:=Nat.two_pow_pos u
  have p1:=q3V (q6r w3 w1 q3 q1 h.a1) (q6r w6 w2 q6 q2 h.a2) (q7B hu h.a1.1 h.a2.1 fd1 Kh h.a3) fd1 Kh fl
  have p2:=q3V (q6r w4 w2 q4 q2 h.a4) (q6r w5 w1 q5 q1 h.a5) (q7B hu h.a4.1 h.a5.1 Ki Kj h.a6) Ki Kj fr
  obtain⟨z1,z2⟩:=q9l fl fr fs fm fk h.a3.1 h.a6.1 h.a7 h.a8 h.a9 h.a10
  rw[z1] at key
  have hkey:(FT.neg t=false∧FT.key t=FT.rung t)∨(FT.neg t=true∧FT.key t= -(FT.rung t:Int)):=by
   unfold FT.key
   cases FT.neg t
   ·exact Or.inl ⟨rfl,rfl⟩
   ·exact Or.inr ⟨rfl,rfl⟩
  have hturn:q2g ax ay bx b2 cx cy=(Z bx-Z ax)*(Z cy-Z ay)-(Z b2-Z ay)*(Z cx-Z ax):=rfl
  rw[hturn]
  generalize (Z bx-Z ax)*(Z cy-Z ay)=P1 at *
  generalize (Z b2-Z ay)*(Z cx-Z ax)=P2 at *
  have hkt:FT.rung k<FT.rung t:=by
   rcases key with ⟨-,-,hk,-⟩|⟨-,-,hk,-⟩<;>rcases hkey with ⟨-,he⟩|⟨-,he⟩<;>omega
  obtain⟨y1,y2,y3⟩:=z2 hkt
  -- both sides times the NZ of one
  have hmul:(14*((Z l).natAbs+(Z r).natAbs)+54043195528445952)*2^u<36028797018963968*(Z l-Z r).natAbs*2^u:=Nat.mul_lt_mul_of_pos_right y3 hU
  have e1:(14*((Z l).natAbs+(Z r).natAbs)+54043195528445952)*2^u=14*((Z l).natAbs*2^u)+14*((Z r).natAbs*2^u)+54043195528445952*2^u:=by
   rw[Nat.add_mul,Nat.mul_add,Nat.add_mul,Nat.mul_assoc,Nat.mul_assoc]
  have e2:36028797018963968*(Z l-Z r).natAbs*2^u=36028797018963968*((Z l-Z r).natAbs*2^u):=Nat.mul_assoc _ _ _
  rw[e1,e2] at hmul
  have e3:Z l*((2^u:Nat):Int)-Z r*((2^u:Nat):Int)=(Z l-Z r)*((2^u:Nat):Int):=by rw[Int.sub_mul]
  have e4:(((Z l-Z r).natAbs*2^u:Nat):Int)=if Z l-Z r<0 then -((Z l-Z r)*((2^u:Nat):Int)) else (Z l-Z r)*((2^u:Nat):Int):=by
   rw[Int.natCast_mul]
   split
   ·rw[show (((Z l-Z r).natAbs:Nat):Int)= -(Z l-Z r) from by omega,Int.neg_mul]
   ·rw[show (((Z l-Z r).natAbs:Nat):Int)=Z l-Z r from by omega]
  generalize (Z l).natAbs*2^u=Y1 at *
  generalize (Z r).natAbs*2^u=Y2 at *
  generalize (Z l-Z r).natAbs*2^u=W at *
  generalize Z l*((2^u:Nat):Int)=X1 at *
  generalize Z r*((2^u:Nat):Int)=X2 at *
  generalize (Z l-Z r)*((2^u:Nat):Int)=X at *
  generalize Z l-Z r=T at *
  generalize 2^u=U at *
  rcases key with ⟨-,-,hk,hf⟩|⟨-,-,hk,hf⟩
  ·rcases hkey with ⟨hn,he⟩|⟨hn,he⟩
   ·rw[hn] at y2
    have hT:=of_decide_eq_false y2.symm
    rw[if_neg hT] at e4
    rw[hf,Int.sign_eq_one_of_pos (by omega)]
   ·omega
  ·rcases hkey with ⟨hn,he⟩|⟨hn,he⟩
   ·omega
   ·rw[hn] at y2
    have hT:=of_decide_eq_true y2.symm
    rw[if_pos hT] at e4
    rw[hf,Int.sign_eq_neg_one_of_neg (by omega)]
end Go.Proofs.YtljkfjjchkehaaaGreatDoor.EN
namespace Go.Proofs.YtljkfjjchkehaaaGreatDoor.EN
open Go.ChangeShapes Go.WideShapes Go.ChangeAt Go.RowKit
attribute [local go_sem] q0d
theorem q5i (w:World) (b c:Nat) (h:(FloatKind.f64.format.order b c==some .eq)=true):Calls Tryz.prog 20 #[.float .f64 b,.float .f64 c] w fun e w'=>e= .returned (.bool true)∧G w w':=by
 go_enter Tryz.func20,Tryz.ntmps20
 go_wp2_with fail
 go_ret
 exact⟨rfl,G.refl _⟩
/-- Points of the same numbers. -/
def q9S (p q:Nat×Nat):Prop:=(FloatKind.f64.format.order p.1 q.1==some .eq)=true∧(FloatKind.f64.format.order p.2 q.2==some .eq)=true
theorem q7m (w:World) (p q:Nat×Nat) (h:q9S p q):Calls Tryz.prog 71 #[.agg #[.float .f64 p.1,.float .f64 p.2],.agg #[.float .f64 q.1,.float .f64 q.2]] w fun e w'=>e= .returned (.bool true)∧G w w':=by
 obtain⟨px,py⟩:=p
 obtain⟨qx,qy⟩:=q
 dsimp only
 have H1:Hid (∀ w1,_):=fun w1=>q5i w1 px qx h.1
 have H2:Hid (∀ w1,_):=fun w1=>q5i w1 py qy h.2
 clear h
 go_enter Tryz.func71,Tryz.ntmps71
 go_wp2_with fail
 obtain⟨w0,aH,g0,hz0,R0,R1⟩:=q2k w [.float .f64 px,.float .f64 py] [.float .f64 qx,.float .f64 qy] 66 66
 rw[aH]
 clear aH
 obtain⟨a0,a1,-⟩:=R0.out.f2
 obtain⟨a2,a3,-⟩:=R1.out.f2
 go_wp2_with fail
 refine Calls.mono (P:=Tryz.prog) (H1.out _) ?_
 rintro e w1 ⟨rfl,g1⟩
 obtain⟨b0,b1,-⟩:=(R0.out.G g1).f2
 obtain⟨b2,b3,-⟩:=(R1.out.G g1).f2
 go_wp2_with fail
 refine Calls.mono (P:=Tryz.prog) (H2.out _) ?_
 rintro e w2 ⟨rfl,g2⟩
 go_wp2_with fail
 go_ret
 exact⟨rfl,G.trans g0 (G.trans g1 g2)⟩
theorem q7M (w:World) (v u:Value) (l m:List (Nat×Nat)) (hlm:l.length=m.length) (hs:∀ k,k<l.length→q9S (l.getD k (0,0)) (m.getD k (0,0))) (hv:PSl w v l) (hu:PSl w u m) (hn:l.length≤100000):
  Calls Tryz.prog 70 #[v,u,.func (.func 71) #[] #[]] w fun e w'=>e= .returned (.bool true)∧G w w':=by
 obtain⟨pa,ca,rfl,-,hr1⟩:=hv
 obtain⟨pb,cb,rfl,-,hr2⟩:=hu
 have H1:Hid _:=hr1
 have H2:Hid _:=hr2
 have HS:Hid _:=hs
 clear hr1 hr2 hs
 have hcf:∀ args w,(callFunc 71 args).run Tryz.prog w= .ok (.enter 71 args) w:=fun _ _=>by kernel_rfl
 obtain⟨n,hn'⟩:∃ n,n=l.length:=⟨_,rfl⟩
 rw[← hlm,← hn']
 rw[← hn'] at hn
 have HN:Hid (n=l.length):=hn'
 have HM:Hid (n=m.length):=hn'.trans hlm
 clear hn' hlm
 go_enter Tryz.func70,Tryz.ntmps70
 go_wp2_with fail
 go_loopw [15] (fun vk wr=>∃ k:Nat,k≤n∧vk= .int .i64 k∧G w wr) (fun vk _=>n-(intOf vk).toNat)
 case atStart=>exact⟨0,Nat.zero_le _,rfl,G.refl _⟩
 case round=>
  obtain⟨k,hk,rfl,hG⟩:=hrel
  by_cases hkn:k<n
  ·obtain⟨b1,o1,rfl,hB1,qd,qf⟩:=H1.out k (by rw[← HN.out];exact hkn)
   obtain⟨b2,o2,rfl,hB2,qg,qh⟩:=H2.out k (by rw[← HM.out];exact hkn)
   have hx1:=hG.cell (p:=⟨b1,o1+k*2,none⟩) hB1 qd
   have hy1:=hG.cell (p:=⟨b1,o1+k*2+1,none⟩) hB1 qf
   have hx2:=hG.cell (p:=⟨b2,o2+k*2,none⟩) hB2 qg
   have hy2:=hG.cell (p:=⟨b2,o2+k*2+1,none⟩) hB2 qh
   have Oy:=HS.out k (by rw[← HN.out];exact hkn)
   generalize l.getD k (0,0)=p at *
   generalize m.getD k (0,0)=q at *
   obtain⟨px,py⟩:=p
   obtain⟨qx,qy⟩:=q
   dsimp only at hx1 hy1 hx2 hy2
   have HX:Hid _:=Oy
   clear Oy
   have hs:=hG.size
   have hb1:b1<wr.heap.size:=by omega
   have hb2:b2<wr.heap.size:=by omega
   clear qd qf qg qh hB1 hB2
   go_wp2_with fail
   refine q0c (by kernel_rfl) (by kernel_rfl) ?_
   intro W hW
   have hq1:=q06 (w:=W) (a:=⟨b1,o1+k*2,none⟩) (x:= .float .f64 px) (by rw[hW];first|(simp;done)|(simp;omega)|omega) (by rw[hW];first|assumption|(simp [go_sem];done)|(simp [*,go_sem];done))
   have hq2:=q06 (w:=W) (a:=⟨b1,o1+k*2+1,none⟩) (x:= .float .f64 py) (by rw[hW];first|(simp;done)|(simp;omega)|omega) (by rw[hW];first|assumption|(simp [go_sem];done)|(simp [*,go_sem];done))
   have hq3:=q06 (w:=W) (a:=⟨b2,o2+k*2,none⟩) (x:= .float .f64 qx) (by rw[hW];first|(simp;done)|(simp;omega)|omega) (by rw[hW];first|assumption|(simp [go_sem];done)|(simp [*,go_sem];done))
   have hq4:=q06 (w:=W) (a:=⟨b2,o2+k*2+1,none⟩) (x:= .float .f64 qy) (by rw[hW];first|(simp;done)|(simp;omega)|omega) (by rw[hW];first|assumption|(simp [go_sem];done)|(simp [*,go_sem];done))
   clear hW
   repeat (go_big_quiet_step (exact q1A (q7m _ (px,py) (qx,qy) HX.out)))
   refine wpQuiet_nil ?_
   clear hq1 hq2 hq3 hq4
   intro w5 jr
   have gJ:=G.trans hG jr
   clear jr hx1 hy1 hx2 hy2
   go_wp2_with fail
   go_roundw
   case rel=>exact⟨k+1,by omega,by go_num,gJ⟩
   case measure=>simp only[intOf];omega
  ·obtain rfl:k=n:=by omega
   go_wp2_with fail
   go_ret
   exact⟨rfl,hG⟩
theorem pt_c (w:World) (x y:Nat):Calls Tryz.prog 43 #[.float .f64 x,.float .f64 y] w fun e w'=>e= .returned (.agg #[.float .f64 x,.float .f64 y])∧G w w':=by
 go_enter Tryz.func43,Tryz.ntmps43
 go_wp2_with fail
 have hT:Hid (Rec (w.alloc (.cells #[.float .f64 x,.float .f64 y] 66)) w.heap.size [.float .f64 x,.float .f64 y]):=Rec.new2 w _ _ _
 have g9:G w (w.alloc (.cells #[.float .f64 x,.float .f64 y] 66)):=(G.refl w).alloc _
 generalize w.alloc (.cells #[.float .f64 x,.float .f64 y] 66)=w9 at *
 have qi:=Rec.f2 (Rec.G hT.out (G.refl _))
 have KG:=qi.1
 have KH:=qi.2.1
 have KI:=qi.2.2.1
 have KJ:=qi.2.2.2
 clear qi
 have je:=Rec.lt hT.out
 refine bodyPost_ret (v:= .agg #[.float .f64 x,.float .f64 y]) (by simp [results,Tryz.results43,go_sem, *]) rfl ?_
 exact⟨rfl,g9⟩
end Go.Proofs.YtljkfjjchkehaaaGreatDoor.EN
namespace Go.Proofs.YtljkfjjchkehaaaGreatDoor.EN
open Go.ChangeShapes Go.WideShapes Go.ChangeAt Go.RowKit
attribute [local go_sem] q0d
/-- Points that are not the same. -/
def q6T (p q:Nat×Nat):Prop:=((FloatKind.f64.format.order p.1 q.1==some .eq)&&(FloatKind.f64.format.order p.2 q.2==some .eq))=false
theorem q5g (u v:Nat) (w:World):(Op.equalIn 9999 26 (.float .f64 u) (.float .f64 v)).run Tryz.prog w= .ok (FloatKind.f64.format.order u v==some .eq) w:=by kernel_rfl
set_option maxRecDepth 10000 in
theorem q6J (w:World) (v:Value) (l:List (Nat×Nat)) (h:PSl w v l) (hd:∀ k,k+1<l.length→q6T (l.getD (k+1) (0,0)) (l.getD k (0,0))) (hn:l.length≤1000000):
  Calls Tryz.prog 114 #[v] w fun e w'=>e= .returned v∧G w w':=by
 obtain⟨pa,ca,rfl,dO,hrow⟩:=h
 have HR:Hid _:=hrow
 have HD:Hid _:=hd
 obtain⟨n,hn'⟩:∃ n,n=l.length:=⟨_,rfl⟩
 rw[← hn'] at hn dO ⊢
 have HN:Hid (n=l.length):=hn'
 clear hrow hd hn'
 by_cases h2:n<2
 ·have O9:decide ((n:Int)<2)=true:=decide_eq_true (by omega)
  go_enter Tryz.func114,Tryz.ntmps114
  go_wp2_with fail
  go_ret
  exact⟨rfl,G.refl _⟩
 ·have O9:decide ((n:Int)<2)=false:=decide_eq_false (by omega)
  go_enter Tryz.func114,Tryz.ntmps114
  go_wp2_with fail
  go_loopw [3] (fun vk wr=>∃ k:Nat,k<n∧vk= .int .i64 (k+1)∧G w wr) (fun vk _=>n+1-(intOf vk).toNat)
  case atStart=>exact⟨0,by omega,rfl,G.refl _⟩
  case round=>
   obtain⟨k,hk,rfl,hG⟩:=hrel
   by_cases hkn:k+1<n
   ·have hkz:decide ((k:Int)+1<(n:Int))=true:=decide_eq_true (by omega)
    obtain⟨b1,o1,rfl,hB1,qd,qf⟩:=HR.out (k+1) (by rw[← HN.out];exact hkn)
    obtain⟨b2,o2,e2,hB2,qg,qh⟩:=HR.out k (by rw[← HN.out];omega)
    cases e2
    have hx1:=hG.cell (p:=⟨b1,o1+(k+1)*2,none⟩) hB1 qd
    have hy1:=hG.cell (p:=⟨b1,o1+(k+1)*2+1,none⟩) hB1 qf
    have hx2:=hG.cell (p:=⟨b1,o1+k*2,none⟩) hB1 qg
    have hy2:=hG.cell (p:=⟨b1,o1+k*2+1,none⟩) hB1 qh
    have hdk:=HD.out k (by rw[← HN.out];exact hkn)
    generalize l.getD (k+1) (0,0)=p at *
    generalize l.getD k (0,0)=q at *
    obtain⟨px,py⟩:=p
    obtain⟨qx,qy⟩:=q
    unfold q6T at hdk
    dsimp only at hx1 hy1 hx2 hy2 hdk
    have hs:=hG.size
    have hb1:b1<wr.heap.size:=by omega
    clear qd qf qg qh hB1 hB2
    go_wp2_with fail
    have he1:=fun w=>q5g px qx w
    have he2:=fun w=>q5g py qy w
    generalize (FloatKind.f64.format.order px qx==some .eq)=t1 at hdk he1
    generalize (FloatKind.f64.format.order py qy==some .eq)=t2 at hdk he2
    cases t1
    ·clear hdk he2
     refine q0c (by kernel_rfl) (by kernel_rfl) ?_
     intro W hW
     have hq1:=q06 (w:=W) (a:=⟨b1,o1+k*2,none⟩) (x:= .float .f64 qx) (by rw[hW];first|(simp;done)|(simp;omega)|omega) (by rw[hW];first|assumption|(simp [go_sem];done)|(simp [*,go_sem];done))
     have hq2:=q06 (w:=W) (a:=⟨b1,o1+k*2+1,none⟩) (x:= .float .f64 qy) (by rw[hW];first|(simp;done)|(simp;omega)|omega) (by rw[hW];first|assumption|(simp [go_sem];done)|(simp [*,go_sem];done))
     have hq3:=q06 (w:=W) (a:=⟨b1,o1+(k+1)*2,none⟩) (x:= .float .f64 px) (by rw[hW];first|(simp;done)|(simp;omega)|omega) (by rw[hW];first|assumption|(simp [go_sem];done)|(simp [*,go_sem];done))
     have hq4:=q06 (w:=W) (a:=⟨b1,o1+(k+1)*2+1,none⟩) (x:= .float .f64 py) (by rw[hW];first|(simp;done)|(simp;omega)|omega) (by rw[hW];first|assumption|(simp [go_sem];done)|(simp [*,go_sem];done))
     clear hW
     repeat (go_big_quiet_step (fail))
     refine wpQuiet_nil ?_
     clear hq1 hq2 hq3 hq4
     intro w5 jr
     go_wp2_with fail
     refine⟨⟨k+1,hkn,by go_num,G.trans hG jr⟩,?_⟩
     show n+1-((k:Int)+1+1).toNat<n+1-((k:Int)+1).toNat
     omega
    ·obtain rfl:t2=false:=by simpa using hdk
     clear hdk
     refine q0c (by kernel_rfl) (by kernel_rfl) ?_
     intro W hW
     have lF:=q06 (w:=W) (a:=⟨b1,o1+k*2,none⟩) (x:= .float .f64 qx) (by rw[hW];first|(simp;done)|(simp;omega)|omega) (by rw[hW];first|assumption|(simp [go_sem];done)|(simp [*,go_sem];done))
     have mK:=q06 (w:=W) (a:=⟨b1,o1+k*2+1,none⟩) (x:= .float .f64 qy) (by rw[hW];first|(simp;done)|(simp;omega)|omega) (by rw[hW];first|assumption|(simp [go_sem];done)|(simp [*,go_sem];done))
     have mM:=q06 (w:=W) (a:=⟨b1,o1+(k+1)*2,none⟩) (x:= .float .f64 px) (by rw[hW];first|(simp;done)|(simp;omega)|omega) (by rw[hW];first|assumption|(simp [go_sem];done)|(simp [*,go_sem];done))
     have hq8:=q06 (w:=W) (a:=⟨b1,o1+(k+1)*2+1,none⟩) (x:= .float .f64 py) (by rw[hW];first|(simp;done)|(simp;omega)|omega) (by rw[hW];first|assumption|(simp [go_sem];done)|(simp [*,go_sem];done))
     clear hW
     repeat (go_big_quiet_step (fail))
     refine wpQuiet_nil ?_
     clear lF mK mM hq8
     intro w5 jr
     go_wp2_with fail
     refine⟨⟨k+1,hkn,by go_num,G.trans hG jr⟩,?_⟩
     show n+1-((k:Int)+1+1).toNat<n+1-((k:Int)+1).toNat
     omega
   ·have hkz:decide ((k:Int)+1<(n:Int))=false:=decide_eq_false (by omega)
    go_wp2_with fail
    go_ret
    exact⟨rfl,hG⟩
end Go.Proofs.YtljkfjjchkehaaaGreatDoor.EN
