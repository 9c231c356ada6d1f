/- What is proved here: contracts of cmp.Compare of floats, cmp.Or of two ints, and package geom's order, over this seat's translation.
What is proved here: package geom's Fast, by what its operations on floats give, over this seat's translation.
What is proved here: IEEE's sums, differences and products of finite words, told by what they lack (no program).
What is proved here: floats of whole numbers: sums, differences and products that are exact (no program).
What is proved here: Fast of whole numbers that aren't great says what turns (no program).
What is proved here: contracts of the law's helpers: points and lists of points that are the same, the law's pt, over this seat's translation.
What is proved here: slices.Compact of points of which no two neighbours are the same, over this seat's translation. -/
import Derived.Test.YtljkfjjchkehaaaGreatDoorQ31
import Derived.Test.YtljkfjjchkehaaaGreatDoorQ32
import Derived.Shelf.SlSortCmp.QuietGrown
import Derived.Test.YtljkfjjchkehaaaGreatDoorQ26
import Derived.Test.YtljkfjjchkehaaaGreatDoorQ13
namespace Go.Proofs.YtljkfjjchkehaaaGreatDoor.EN
open Go.ChangeShapes Go.WideShapes Go.ChangeAt Go.RowKit Go.Sort
attribute [local go_sem] q0h
/-- Finite floats are ordered as their numbers. -/
theorem q4Y {x y:Nat} (hx:fex x<2047) (hy:fex y<2047):FloatKind.f64.format.order x y=some (compare (fz x) (fz y)):=by
 have n1:FT.nan x=false:=by
  unfold FT.nan
  have:=(q1P x).1 hx
  exact decide_eq_false (by unfold FT.infR at *;omega)
 have n2:FT.nan y=false:=by
  unfold FT.nan
  have:=(q1P y).1 hy
  exact decide_eq_false (by unfold FT.infR at *;omega)
 rw[FT.ord_f,n1,n2]
 simp only[Bool.or_self,Bool.false_eq_true,if_false]
 congr 1
 have hv0:∀ r,FT.v r=0↔r=0:=fun r=>by
  constructor
  ·intro h
   have h0:FT.v 0=0:=by rw[FT.v_sub (Nat.two_pow_pos _)]
   exact FT.v_inj (h.trans h0.symm)
  ·rintro rfl;rw[FT.v_sub (Nat.two_pow_pos _)]
 have hl:∀ r s,FT.v r<FT.v s↔r<s:=fun r s=>⟨fun h=>by
  rcases Nat.lt_or_ge r s with h1|h1
  ·exact h1
  ·have:=FT.v_le.2 h1;omega,FT.v_lt⟩
 unfold FT.key fz
 generalize FT.rung x=r
 generalize FT.rung y=s
 have h1:=hl r s
 have h2:=hl s r
 have h3:=hv0 r
 have h4:=hv0 s
 generalize FT.v r=a at *
 generalize FT.v s=b at *
 have key:∀ p q p' q':Int,(p<q↔p'<q')→(q<p↔q'<p')→compare p q=compare p' q':=by
  intro p q p' q' k1 k2
  rcases Int.lt_trichotomy p q with h|h|h
  ·rw[Int.compare_eq_lt.2 h,Int.compare_eq_lt.2 (k1.1 h)]
  ·rw[Int.compare_eq_eq.2 h,Int.compare_eq_eq.2 (by
    have:=mt k1.2 (by omega)
    have:=mt k2.2 (by omega)
    omega)]
  ·rw[Int.compare_eq_gt.2 h,Int.compare_eq_gt.2 (k2.1 h)]
 cases FT.neg x<;>cases FT.neg y<;>simp only[if_true,Bool.false_eq_true,if_false]<;>apply key<;>omega
theorem q4j (w:World) (x:Nat) (hx:fex x<2047):Calls Tryz.prog 192 #[.float .f64 x] w fun e w'=>e= .returned (.bool false)∧w'=w:=by
 have ho:=q4Y hx hx
 rw[Int.compare_eq_eq.2 rfl] at ho
 clear hx
 go_enter Tryz.func192,Tryz.ntmps192
 go_wp2
 go_ret
 exact⟨by simp,rfl⟩
theorem q3n (w:World) (x y:Nat) (hx:fex x<2047) (hy:fex y<2047):Calls Tryz.prog 160 #[.float .f64 x,.float .f64 y] w fun e w'=>e= .returned (.int .i64 (cmpZ (fz x) (fz y)))∧w'=w:=by
 have HX:Hid (∀ w1,_):=fun w1=>q4j w1 x hx
 have HY:Hid (∀ w1,_):=fun w1=>q4j w1 y hy
 have ho:=q4Y hx hy
 clear hx hy
 generalize fz x=p at *
 generalize fz y=q at *
 have go:∀ t1 t2:Bool,(FloatKind.f64.format.order x y==some .lt)=t1→(FloatKind.f64.format.order x y==some .gt)=t2→(if t1 then (-1:Int) else if t2 then 1 else 0)=cmpZ p q→Calls Tryz.prog 160 #[.float .f64 x,.float .f64 y] w fun e w'=>e= .returned (.int .i64 (cmpZ p q))∧w'=w:=by
  intro t1 t2 e1 e2 e3
  rw[← e3]
  clear ho e3
  go_enter Tryz.func160,Tryz.ntmps160
  go_wp2_with fail
  refine Calls.mono (P:=Tryz.prog) (HX.out _) ?_
  rintro e w1 ⟨rfl,rfl⟩
  go_wp2_with fail
  refine Calls.mono (P:=Tryz.prog) (HY.out _) ?_
  rintro e w1 ⟨rfl,rfl⟩
  cases t1
  ·cases t2
   ·go_wp2_with fail
    go_ret
    exact⟨rfl,rfl⟩
   ·go_wp2_with fail
    go_ret
    exact⟨rfl,rfl⟩
  ·go_wp2_with fail
   go_ret
   exact⟨rfl,rfl⟩
 unfold cmpZ at go ⊢
 rcases Int.lt_trichotomy p q with h|h|h
 ·rw[Int.compare_eq_lt.2 h] at ho
  exact go true false (by rw[ho];rfl) (by rw[ho];rfl) (by simp only[if_true];split<;>(try split)<;>omega)
 ·rw[Int.compare_eq_eq.2 h] at ho
  exact go false false (by rw[ho];rfl) (by rw[ho];rfl) (by simp only[Bool.false_eq_true,if_false];split<;>(try split)<;>omega)
 ·rw[Int.compare_eq_gt.2 h] at ho
  exact go false true (by rw[ho];rfl) (by rw[ho];rfl) (by simp only[if_true,Bool.false_eq_true,if_false];split<;>(try split)<;>omega)
/-- The first of two ints that isn't 0. -/
theorem or_c (w:World) (b c:Nat) (p q:Int) (h0:w.cell? ⟨b,0,none⟩=some (.int .i64 p)) (h1:w.cell? ⟨b,1,none⟩=some (.int .i64 q)):
  Calls Tryz.prog 159 #[.slice (some ⟨b,0,none⟩) 2 c] w fun e w'=>e= .returned (.int .i64 (if p=0 then q else p))∧w'=w:=by
 have H0:Hid _:=h0
 have H1:Hid _:=h1
 clear h0 h1
 go_enter Tryz.func159,Tryz.ntmps159
 go_wp2_with fail
 go_loopw [8] (fun vk wr=>∃ k:Nat,k≤2∧vk= .int .i64 k∧wr=w∧(0<k→p=0)∧(1<k→q=0)) (fun vk _=>2-(intOf vk).toNat)
 case atStart=>exact⟨0,by omega,rfl,rfl,by omega,by omega⟩
 case round=>
  obtain⟨k,hk,rfl,rfl,k0,k1⟩:=hrel
  rcases k with _|_|k
  ·have h0:=H0.out
   clear k0 k1
   by_cases hp:p=0
   ·subst hp
    go_wp2_with fail
    exact⟨⟨1,by omega,by first|trivial|rfl,by first|trivial|rfl,by simp,by simp⟩,by show 2-((1:Int)).toNat<2-((0:Int)).toNat;decide⟩
   ·have Hu:(p==0)=false:=by simpa using hp
    have hpb:(p != 0)=true:=by simpa using hp
    go_wp2_with fail
    go_ret
    exact⟨rfl,rfl⟩
  ·have h1:=H1.out
   obtain rfl:=k0 (by omega)
   clear k0 k1
   by_cases hq:q=0
   ·subst hq
    go_wp2_with fail
    exact⟨⟨2,by omega,by first|trivial|rfl,by first|trivial|rfl,by simp,by simp⟩,by show 2-((2:Int)).toNat<2-((1:Int)).toNat;decide⟩
   ·have Am:(q != 0)=true:=by simpa using hq
    go_wp2_with fail
    go_ret
    exact⟨rfl,rfl⟩
  ·have hk0:k=0:=by omega
   subst hk0
   obtain rfl:=k0 (by omega)
   obtain rfl:=k1 (by omega)
   go_wp2_with fail
   go_ret
   exact⟨rfl,rfl⟩
theorem q6U {P:Program} {md:Region.Mode} {ops:Array Oper} {Q:Exit→Act→World→Prop} {fp:Nat} {a:Act} {w w1:World} {listed:Array Bool} (np:Nat) (pl:List Nat) (pre:List Oper) (hpre:pl.map (fun k=>ops.toList[k]?)=pre.map some) (hs:Region.noSelect ops=true)
  (hch:chained md ops listed pl np=true) (hc:q1X md ops listed=true) (hw:q1V md ops=true) (hB:q2I md ops pl pl listed=true) (hC:∃ n:Nat,w1=w.drewN n)
  (h:wpQuiet P ops (fun w'=>∃ n:Nat,w'=w.drewN n) (fun a'=>∀ w',(∃ n:Nat,w'=w.drewN n)→wpAny P md ops Q fp (q3y pl listed) a' w') pre a):wpAny P md ops Q (fp+pl.length) listed a w1:=
 q6A (C:=fun w'=>∃ n:Nat,w'=w.drewN n) (np:=np) pl pre (by rw[← hpre];simp) hs hch hc hw hB hC h
/-- Points in the order of X, of one X in that of Y. -/
def ordZ (p q:Nat×Nat):Int:=if cmpZ (fz p.1) (fz q.1)=0 then cmpZ (fz p.2) (fz q.2) else cmpZ (fz p.1) (fz q.1)
set_option maxRecDepth 20000 in
set_option maxHeartbeats 2000000 in
theorem q8o (w:World) (p q:Nat×Nat) (hp:FinP p) (hq:FinP q):Calls Tryz.prog 117 #[.agg #[.float .f64 p.1,.float .f64 p.2],.agg #[.float .f64 q.1,.float .f64 q.2]] w fun e w'=>e= .returned (.int .i64 (ordZ p q))∧∃ n os,w'=grow (w.drewN n) os:=by
 have HX:Hid (∀ w1,_):=fun w1=>q3n w1 p.1 q.1 hp.1 hq.1
 have HY:Hid (∀ w1,_):=fun w1=>q3n w1 p.2 q.2 hp.2 hq.2
 unfold ordZ
 generalize cmpZ (fz p.1) (fz q.1)=c1 at *
 generalize cmpZ (fz p.2) (fz q.2)=c2 at *
 clear hp hq
 obtain⟨px,py⟩:=p
 obtain⟨qx,qy⟩:=q
 dsimp only at HX HY ⊢
 have Et:Hid (∀ (w:World) (b c:Nat),w.cell? ⟨b,0,none⟩=some (.int .i64 c1)→w.cell? ⟨b,1,none⟩=some (.int .i64 c2)→_):=fun w b c h0 h1=>or_c w b c c1 c2 h0 h1
 generalize (if c1=0 then c2 else c1)=r at *
 obtain⟨w0,hw0⟩:∃ w0,w0=(w.alloc (.cells #[.float .f64 px,.float .f64 py] 66)).alloc (.cells #[.float .f64 qx,.float .f64 qy] 66):=⟨_,rfl⟩
 have hgr:w0=grow w #[.cells #[.float .f64 px,.float .f64 py] 66 (0,0),.cells #[.float .f64 qx,.float .f64 qy] 66 (0,0)]:=by rw[hw0,alloc_eq_grow,alloc_eq_grow,grow_grow];rfl
 have HG:Hid _:=hgr
 have R0:Rec w0 w.heap.size [.float .f64 px,.float .f64 py]:=by rw[hw0];exact Rec.G (Rec.new2 w _ _ _) ((G.refl _).alloc _)
 have R1:Rec w0 (w.heap.size+1) [.float .f64 qx,.float .f64 qy]:=by
  have h:=Rec.new2 (w.alloc (.cells #[.float .f64 px,.float .f64 py] 66)) (.float .f64 qx) (.float .f64 qy) 66
  rw[World.size_alloc] at h
  rw[hw0];exact h
 obtain⟨a0,a1,-⟩:=R0.f2
 obtain⟨a2,a3,-⟩:=R1.f2
 clear hgr R0 R1
 go_enter Tryz.func117,Tryz.ntmps117
 go_wp2_with fail
 rw[← hw0]
 clear hw0
 refine wp_region_any (by kernel_rfl) ?_
 refine q6U (w:=w0) (fp:=3) 10 [0,1,2,3,4,5,6,7,8,9] [_,_,_,_,_,_,_,_,_,_] rfl (by kernel_rfl) (by kernel_rfl) (by kernel_rfl) (by kernel_rfl) (by kernel_rfl) ⟨1,rfl⟩ ?_
 quiet_step (fail)
 quiet_step (fail)
 quiet_step (fail)
 quiet_step (fail)
 quiet_step (first|(go_at_call 160;exact Calls.quiet_of_same (HX.out _)))
 quiet_step (fail)
 quiet_step (fail)
 quiet_step (fail)
 quiet_step (fail)
 quiet_step (first|(go_at_call 160;exact Calls.quiet_of_same (HY.out _)))
 refine wpQuiet_nil ?_
 rintro _ ⟨nq,rfl⟩
 obtain⟨n0,n1,-⟩:=(Rec.new2 (w0.drewN nq) (.int .i64 c1) (.int .i64 c2) 3).f2
 rw[show (w0.drewN nq).heap.size=w0.heap.size from rfl] at n0 n1
 clear HX HY a0 a1 a2 a3
 refine wpAny_ready (rs:=[10]) (by kernel_rfl) (by simp) ?_
 refine AllReady.cons rfl (fun K hK=> ?_) AllReady.nil
 go_simp
 refine hK _ _ ?_
 clear hK K
 refine wpAny_ready (rs:=[11]) (by kernel_rfl) (by simp) ?_
 refine AllReady.cons rfl (fun K hK=> ?_) AllReady.nil
 go_simp
 refine Calls.mono (P:=Tryz.prog) (Et.out _ _ _ n0 n1) ?_
 rintro e w2 ⟨rfl,rfl⟩
 refine hK _ _ ?_
 clear hK K n0 n1
 refine q06 (i:=12) (v:= ?_) rfl (by kernel_rfl) (by kernel_rfl) (by kernel_rfl) (fun _ _ _ h=>h) (Or.inl ⟨by rfl,?_⟩) ?_
 rotate_left
 ·intro wq;first|(go_simp;done)|(go_simp;with_reducible rfl)
 try simp only[Act.put,List.setIfInBounds_toArray,List.set_cons_zero,List.set_cons_succ]
 refine wpAny_done (by kernel_rfl) ?_ _
 go_wp2_with fail
 go_ret
 exact⟨rfl,nq,_,by rw[HG.out,alloc_eq_grow];show grow (grow (w.drewN nq) _) _=_;rw[grow_grow]⟩
end Go.Proofs.YtljkfjjchkehaaaGreatDoor.EN
namespace Go.Proofs.YtljkfjjchkehaaaGreatDoor.EN
open Go.ChangeShapes Go.WideShapes Go.ChangeAt Go.RowKit
attribute [local go_sem] q0h q0s
/-- The float with the other sign. -/
def oppF (b:Nat):Nat:=Op.negFloat .f64 b
/-- What Fast reckons. -/
structure FastBy (ax ay bx b2 cx cy:Nat) (d1 d2 l e1 e2 r s m k t:Nat):Prop where
 a1:Any (Ieee.double.sub bx ax) d1
 a2:Any (Ieee.double.sub cy ay) d2
 a3:Any (Ieee.double.mul d1 d2) l
 a4:Any (Ieee.double.sub b2 ay) e1
 a5:Any (Ieee.double.sub cx ax) e2
 a6:Any (Ieee.double.mul e1 e2) r
 a7:Any (Ieee.double.add (FT.rung l) (FT.rung r)) s
 a8:Any (Ieee.double.mul s 4377498837804122112) m
 a9:Any (Ieee.double.add m 4) k
 a10:Any (Ieee.double.sub l r) t
def q2F (k t:Nat):Int×Bool:=if (FloatKind.f64.format.order t k==some .gt) then (1,true) else if (FloatKind.f64.format.order t (oppF k)==some .lt) then (-1,true) else (0,false)
def q8i (w:World) (ax ay bx b2 cx cy:Nat) (e:Ending) (w':World):Prop:=∃ d1 d2 l e1 e2 r s m k t,FastBy ax ay bx b2 cx cy d1 d2 l e1 e2 r s m k t∧e= .returned (.tuple #[.int .i64 (q2F k t).1,.bool (q2F k t).2])∧G w w'
theorem q1E {x y q:Nat} (h:Ieee.double.sub x y=some q):q<2^64:=Ieee.Format.sub_lt _ h
theorem q3e {x y q:Nat} (h:Ieee.double.mul x y=some q):q<2^64:=Ieee.Format.mul_lt _ h
theorem q4T {x y q:Nat} (h:Ieee.double.add x y=some q):q<2^64:=Ieee.Format.add_lt _ h
set_option maxRecDepth 20000 in
theorem q93 (w:World) (ax ay bx b2 cx cy:Nat):Calls Tryz.prog 41 #[.agg #[.float .f64 ax,.float .f64 ay],.agg #[.float .f64 bx,.float .f64 b2],.agg #[.float .f64 cx,.float .f64 cy]] w (q8i w ax ay bx b2 cx cy):=by
 go_enter Tryz.func41,Tryz.ntmps41
 go_wp2_with fail
 obtain⟨w0,ae,g0,hz0,R0,R1,R2⟩:=q14 w [.float .f64 ax,.float .f64 ay] [.float .f64 bx,.float .f64 b2] [.float .f64 cx,.float .f64 cy] 66 66 66
 rw[ae]
 clear ae
 obtain⟨d1,w1,h1,g1,A1⟩:=q0D .sub 26 bx ax (by simp) (fun q hq=>q1E hq) w0
 obtain⟨d2,w2,h2,g2,A2⟩:=q0D .sub 26 cy ay (by simp) (fun q hq=>q1E hq) w1
 obtain⟨l,w3,h3,g3,A3⟩:=q0D .mul 26 d1 d2 (by simp) (fun q hq=>q3e hq) w2
 obtain⟨e1,w4,h4,g4,A4⟩:=q0D .sub 26 b2 ay (by simp) (fun q hq=>q1E hq) w3
 obtain⟨e2,w5,h5,g5,A5⟩:=q0D .sub 26 cx ax (by simp) (fun q hq=>q1E hq) w4
 obtain⟨r,w6,h6,g6,A6⟩:=q0D .mul 26 e1 e2 (by simp) (fun q hq=>q3e hq) w5
 have aK:=g1
 have gX:=G.trans aK g2
 have lN:=G.trans gX g3
 have gK:=G.trans lN g4
 have qK:=G.trans gK g5
 have Aj:=G.trans qK g6
 obtain⟨p0,p1,-⟩:=R0.out.f2
 obtain⟨p2,p3,-⟩:=R1.out.f2
 obtain⟨p4,p5,-⟩:=R2.out.f2
 obtain⟨q0,q1,-⟩:=(R0.out.G aK).f2
 obtain⟨q4,q5,-⟩:=(R2.out.G aK).f2
 obtain⟨r0,r1,-⟩:=(R0.out.G lN).f2
 obtain⟨r2,r3,-⟩:=(R1.out.G lN).f2
 obtain⟨r4,r5,-⟩:=(R2.out.G lN).f2
 obtain⟨s0,s1,-⟩:=(R0.out.G gK).f2
 obtain⟨s4,s5,-⟩:=(R2.out.G gK).f2
 have HA:Hid (∀ w1,_):=fun w1=>q8h l w1 A3.1
 have HB:Hid (∀ w1,_):=fun w1=>q8h r w1 A6.1
 go_wp2_with fail
 rw[h1]
 go_wp2_with fail
 refine Calls.mono (P:=Tryz.prog) (HA.out _) ?_
 rintro e w7 ⟨rfl,g7⟩
 go_wp2_with fail
 refine Calls.mono (P:=Tryz.prog) (HB.out _) ?_
 rintro e w8 ⟨rfl,g8⟩
 have Ak:=G.trans Aj (G.trans g7 g8)
 clear h1 h2 h3 h4 h5 h6 g1 g2 g3 g4 g5 g6 g7 g8 aK gX lN gK qK Aj p0 p1 p2 p3 p4 p5 q0 q1 q4 q5 r0 r1 r2 r3 r4 r5 s0 s1 s4 s5 R0 R1 R2 HA HB
 obtain⟨s,w9,h1,g1,A7⟩:=q0D .add 26 (FT.rung l) (FT.rung r) (by simp) (fun q hq=>q4T hq) w8
 obtain⟨m,fD,h2,g2,A8⟩:=q0D .mul 26 s 4377498837804122112 (by simp) (fun q hq=>q3e hq) w9
 obtain⟨k,jU,h3,g3,A9⟩:=q0D .add 26 m 4 (by simp) (fun q hq=>q4T hq) fD
 obtain⟨t,vo,h4,g4,Al⟩:=q0D .sub 26 l r (by simp) (fun q hq=>q1E hq) jU
 have HF:Hid (FastBy ax ay bx b2 cx cy d1 d2 l e1 e2 r s m k t):=⟨A1,A2,A3,A4,A5,A6,A7,A8,A9,Al⟩
 have HG:Hid (G w vo):=G.trans g0 (G.trans Ak (G.trans g1 (G.trans g2 (G.trans g3 g4))))
 clear A1 A2 A3 A4 A5 A6 A7 A8 A9 Al g0 Ak g1 g2 g3 g4 hz0
 cases hb1:(FloatKind.f64.format.order t k==some .gt)
 ·cases hb2:(FloatKind.f64.format.order t (Op.negFloat .f64 k)==some .lt)
  ·have HE:Hid (q2F k t=(0,false)):=by show _=_;unfold q2F oppF;rw[hb1,hb2];rfl
   go_wp2_with fail
   go_ret2
   exact⟨d1,d2,l,e1,e2,r,s,m,k,t,HF.out,by rw[HE.out];rfl,HG.out⟩
  ·have HE:Hid (q2F k t=(-1,true)):=by show _=_;unfold q2F oppF;rw[hb1,hb2];rfl
   go_wp2_with fail
   go_ret2
   exact⟨d1,d2,l,e1,e2,r,s,m,k,t,HF.out,by rw[HE.out];rfl,HG.out⟩
 ·have HE:Hid (q2F k t=(1,true)):=by show _=_;unfold q2F oppF;rw[hb1];rfl
  go_wp2_with fail
  go_ret2
  exact⟨d1,d2,l,e1,e2,r,s,m,k,t,HF.out,by rw[HE.out];rfl,HG.out⟩
end Go.Proofs.YtljkfjjchkehaaaGreatDoor.EN
namespace Go.Proofs.YtljkfjjchkehaaaGreatDoor.EN
open Go.RowKit
open Go.Proofs.YtljkfjjchkehaaaGreatDoor.EA (Rp IsRn top Z)
open BN
theorem z_fz (b:Nat):Z b=fz b:=rfl
/-- r is the float nearest to P / Q units. -/
structure Rnd (P:Int) (Q r:Nat):Prop where
 lt:r<2^64
 le:FT.rung r≤FT.infR
 fin:FT.rung r<FT.infR→∃ N k:Nat,Z r=(if P<0 then -((N*2^k:Nat):Int) else ((N*2^k:Nat):Int))∧N≤2^53∧2*P.natAbs≤2*(N*2^k*Q)+2^k*Q∧2*(N*2^k*Q)≤2*P.natAbs+2^k*Q∧(k=0∨2^52*2^k*Q≤P.natAbs)
 small:∀ c,Rp c→c<top→P.natAbs≤c*Q→FT.rung r<FT.infR
 sg:P≠0→FT.neg r=decide (P<0)
theorem q3O {P:Int} {Q u:Nat} (s:Bool) (hQ:Q≠0) (hu:u=1074):Rnd P Q (if P=0 then FT.wrd s 0 else FT.wrd (decide (P<0)) (flV P.natAbs (Q*2^u))):=by
 have hU:=Nat.two_pow_pos u
 by_cases hP:P=0
 ·rw[if_pos hP,hP]
  have h63:(0:Nat)<2^63:=by omega
  have hr:=FT.wrd_rung s 0 h63
  have hZ:Z (FT.wrd s 0)=0:=EA.Z_zero.2 hr
  refine⟨FT.wrd_lt s 0 h63,by rw[hr];exact Nat.zero_le _,fun _=>⟨0,0,by rw[hZ];simp,by omega,by simp,by simp,Or.inl rfl⟩,fun _ _ _ _=>by rw[hr];unfold FT.infR;omega,fun h=>absurd rfl h⟩
 ·rw[if_neg hP]
  have hA:P.natAbs≠0:=by omega
  have hB:Q*2^u≠0:=Nat.ne_of_gt (Nat.mul_pos (by omega) hU)
  obtain⟨N,k,h1,h2,h3,h4,h5,h6,-⟩:=EA.flV_told hA hB u hu
  have e:∀ x,x*(Q*2^u)=x*Q*2^u:=fun x=>by ac_rfl
  have f4:2*P.natAbs≤2*(N*2^k*Q)+2^k*Q:=by
   refine Nat.le_of_mul_le_mul_right (c:=2^u) ?_ hU
   rw[e,e] at h4
   rw[Nat.add_mul,Nat.mul_assoc 2 P.natAbs,Nat.mul_assoc 2 (N*2^k*Q)]
   exact h4
  have f5:2*(N*2^k*Q)≤2*P.natAbs+2^k*Q:=by
   refine Nat.le_of_mul_le_mul_right (c:=2^u) ?_ hU
   rw[e,e] at h5
   rw[Nat.add_mul,Nat.mul_assoc 2 P.natAbs,Nat.mul_assoc 2 (N*2^k*Q)]
   exact h5
  have f6:k=0∨2^52*2^k*Q≤P.natAbs:=by
   rcases h6 with h|h
   ·exact Or.inl h
   ·refine Or.inr (Nat.le_of_mul_le_mul_right (c:=2^u) ?_ hU)
    rw[e] at h
    exact h
  have hv:=EA.v_made h2 h3
  have hle:=show flV P.natAbs (Q*2^u)≤FT.infR from Nat.min_le_right _ _
  have hlt:=EA.infR_lt
  have hsm:∀ c,Rp c→c<top→P.natAbs≤c*Q→k*2^52+N<FT.infR:=by
   intro c hc ht hp
   refine EA.lt_top.1 ?_
   rw[hv]
   have Es:0<Q:=by omega
   by_cases hcl:N*2^k≤c
   ·omega
   ·-- c < N * 2 ^ k, though the number is no greater than c
    exfalso
    have g1:c<N*2^k:=by omega
    -- c has at most 53 digits: it lies at least a step below
    have g3:c+2^k≤N*2^k∨k=0∨c<2^52*2^k:=by
     by_cases hc2:2^52*2^k≤c
     ·left
      obtain⟨q,hq⟩:=EA.rp_dvd hc hc2
      rw[hq,Nat.mul_comm] at g1 ⊢
      have:q<N:=Nat.lt_of_mul_lt_mul_right g1
      calc q*2^k+2^k=(q+1)*2^k:=by rw[Nat.add_mul,Nat.one_mul]
       _≤N*2^k:=Nat.mul_le_mul_right _ this
     ·right;right;omega
    rcases g3 with g3|g3|g3
    ·have h7:(c+2^k)*Q≤N*2^k*Q:=Nat.mul_le_mul_right _ g3
     rw[Nat.add_mul] at h7
     have h8:0<2^k*Q:=Nat.mul_pos (Nat.two_pow_pos k) Es
     omega
    ·subst g3
     have h7:(c+1)*Q≤N*2^0*Q:=Nat.mul_le_mul_right _ g1
     rw[Nat.add_mul] at h7
     simp at h7 f5
     omega
    ·rcases f6 with h|h
     ·subst h
      have h7:(c+1)*Q≤N*2^0*Q:=Nat.mul_le_mul_right _ g1
      rw[Nat.add_mul] at h7
      simp at h7 f5
      omega
     ·have h7:(c+1)*Q≤2^52*2^k*Q:=Nat.mul_le_mul_right _ g3
      rw[Nat.add_mul] at h7
      omega
  generalize k*2^52+N=kk at h1 hv hsm
  generalize flV P.natAbs (Q*2^u)=r at h1 hle ⊢
  have hr:=FT.wrd_rung (decide (P<0)) r (by omega)
  have hZ:=EA.Z_wrd (s:=decide (P<0)) (r:=r) (by omega)
  refine⟨FT.wrd_lt _ r (by omega),by rw[hr];exact hle,fun hx=> ?_,fun c h7 h8 h9=> ?_,fun _=>FT.wrd_neg _ r (by omega)⟩
  ·rw[hr] at hx
   obtain rfl:r=kk:=by omega
   rw[hv] at hZ
   refine⟨N,k,?_,h2,f4,f5,f6⟩
   rw[hZ]
   by_cases hx:P<0
   ·rw[decide_eq_true hx,if_pos hx,if_pos rfl]
   ·rw[decide_eq_false hx,if_neg hx,if_neg (by simp)]
  ·rw[hr]
   have:=hsm c h7 h8 h9
   omega
theorem q4h {o:Option Nat} {r q:Nat} (h:Any o r) (e:o=some q):r=q:=h.2.1 q e
theorem q92 {x y r:Nat} (hx:x<2^64) (hy:y<2^64) (fx:FT.rung x<FT.infR) (fy:FT.rung y<FT.infR) (h:Any (Ieee.double.add x y) r):Rnd (Z x+Z y) 1 r:=by
 obtain⟨m,e,hfx⟩:=Fin64.of hx fx
 obtain⟨n,f,dF⟩:=Fin64.of hy fy
 obtain⟨u,hu⟩:∃ u,u=1074:=⟨_,rfl⟩
 have hB:2^u≠0:=Nat.ne_of_gt (Nat.two_pow_pos u)
 have h1:=q9h hfx dF (A:=Z x+Z y) (B:=2^u) hB (EA.units2 (EA.fin_Z hfx u hu) (EA.fin_Z dF u hu))
 rw[q4h h h1]
 have:=q3O (P:=Z x+Z y) (Q:=1) (FT.neg x&&FT.neg y) (by omega) hu
 rw[Nat.one_mul] at this
 exact this
theorem q9l {x y r:Nat} (hx:x<2^64) (hy:y<2^64) (fx:FT.rung x<FT.infR) (fy:FT.rung y<FT.infR) (h:Any (Ieee.double.sub x y) r):Rnd (Z x-Z y) 1 r:=by
 obtain⟨m,e,hfx⟩:=Fin64.of hx fx
 obtain⟨n,f,dF⟩:=Fin64.of hy fy
 obtain⟨u,hu⟩:∃ u,u=1074:=⟨_,rfl⟩
 have hB:2^u≠0:=Nat.ne_of_gt (Nat.two_pow_pos u)
 have hE:(frD e:Int)≠0:=by have:=q21 e;omega
 have hF:(frD f:Int)≠0:=by have:=q21 f;omega
 have h2:frN (!FT.neg y) n f*((2^u:Nat):Int)=(-Z y)*(frD f:Nat):=by rw[EA.frN_not,Int.neg_mul,EA.fin_Z dF u hu,Int.neg_mul]
 have h1:=q7I (q1d (FT.neg x) m e) (q1d (!FT.neg y) n f) hE hF (A:=Z x+ -Z y) (B:=2^u) hB (EA.units2 (EA.fin_Z hfx u hu) h2)
 have h3:Ieee.double.sub x y=some (if Z x+ -Z y=0 then FT.wrd (FT.neg x&& !FT.neg y) 0 else FT.wrd (decide (Z x+ -Z y<0)) (flV (Z x+ -Z y).natAbs (2^u))):=by
  refine Eq.trans ?_ h1
  unfold Ieee.Format.sub
  rw[q1r hfx,q1r dF]
  rfl
 rw[q4h h h3,Int.sub_eq_add_neg]
 have:=q3O (P:=Z x+ -Z y) (Q:=1) (FT.neg x&& !FT.neg y) (by omega) hu
 rw[Nat.one_mul] at this
 exact this
theorem q8I {x y r u:Nat} (hu:u=1074) (hx:x<2^64) (hy:y<2^64) (fx:FT.rung x<FT.infR) (fy:FT.rung y<FT.infR) (h:Any (Ieee.double.mul x y) r):Rnd (Z x*Z y) (2^u) r:=by
 obtain⟨m,e,hfx⟩:=Fin64.of hx fx
 obtain⟨n,f,dF⟩:=Fin64.of hy fy
 have hU:=Nat.two_pow_pos u
 have hB:2^u*2^u≠0:=Nat.ne_of_gt (Nat.mul_pos hU hU)
 have h1:=EA.fin_Z hfx u hu
 have h2:=EA.fin_Z dF u hu
 have h3:=q97 hfx dF (A:=Z x*Z y) (B:=2^u*2^u) hB (by
  push_cast
  push_cast at h1 h2
  rw[show frN (FT.neg x) m e*frN (FT.neg y) n f*((2:Int)^u*2^u)=(frN (FT.neg x) m e*2^u)*(frN (FT.neg y) n f*2^u) from by ac_rfl,h1,h2]
  ac_rfl)
 rw[q4h h h3]
 exact q3O _ (Nat.ne_of_gt hU) hu
theorem Rnd.isRn {z:Int} {Q r:Nat} (h:Rnd (z*(Q:Int)) Q r) (hQ:0<Q) (hf:FT.rung r<FT.infR):∃ v,IsRn z.natAbs v∧Z r=if z<0 then -(v:Int) else v:=by
 obtain⟨N,k,h1,h2,h3,h4,h5⟩:=h.fin hf
 have hab:(z*(Q:Int)).natAbs=z.natAbs*Q:=by rw[Int.natAbs_mul,Int.natAbs_natCast]
 have hsg:(z*(Q:Int)<0)=(z<0):=by
  apply propext
  have Er:(0:Int)<Q:=by omega
  constructor
  ·intro hn
   by_cases hz:z<0
   ·exact hz
   ·have:=Int.mul_nonneg (show 0≤z by omega) (show (0:Int)≤Q by omega);omega
  ·intro hn
   exact Int.mul_neg_of_neg_of_pos hn Er
 rw[hab] at h3 h4 h5
 simp only[hsg] at h1
 refine⟨N*2^k,⟨N,k,rfl,h2,?_,?_,?_⟩,h1⟩
 ·refine Nat.le_of_mul_le_mul_right (c:=Q) ?_ hQ
  rw[Nat.add_mul,Nat.mul_assoc,Nat.mul_assoc 2 (N*2^k) Q];exact h3
 ·refine Nat.le_of_mul_le_mul_right (c:=Q) ?_ hQ
  rw[Nat.add_mul,Nat.mul_assoc,Nat.mul_assoc 2 z.natAbs Q];exact h4
 ·rcases h5 with h|h
  ·exact Or.inl h
  ·exact Or.inr (Nat.le_of_mul_le_mul_right h hQ)
theorem Rnd.exact {z:Int} {Q r:Nat} (h:Rnd (z*(Q:Int)) Q r) (hQ:0<Q) (hr:Rp z.natAbs) (ht:z.natAbs<top):FT.rung r<FT.infR∧Z r=z:=by
 have hf:=h.small _ hr ht (by rw[Int.natAbs_mul,Int.natAbs_natCast];exact Nat.le_refl _)
 obtain⟨v,hv,hz⟩:=h.isRn hQ hf
 refine⟨hf,?_⟩
 rw[hz,hv.self hr]
 split<;>omega
theorem q2s {n u:Nat} (hu:u=1074) (h:n<2^60*2^u):n<top:=by
 obtain⟨k,hk⟩:∃ k,k=1082:=⟨_,rfl⟩
 have hv:=EA.v_made (N:=2^52) (k:=k) (by omega) (Or.inr (Nat.le_refl _))
 have hlt:k*2^52+2^52<FT.infR:=by unfold FT.infR;omega
 have:=EA.lt_top.2 hlt
 rw[hv] at this
 rw[← Nat.pow_add] at this h
 rw[show 52+k=60+u from by omega] at this
 omega
/-- r is the float of the whole number z (U: units of one). -/
def FI (U r:Nat) (z:Int):Prop:=r<2^64∧FT.rung r<FT.infR∧Z r=z*(U:Int)
theorem q4A {z:Int} {u:Nat} (hz:z.natAbs≤2^53):Rp (z*((2^u:Nat):Int)).natAbs:=by
 rw[Int.natAbs_mul,Int.natAbs_natCast]
 exact EA.rp_of hz
theorem q3J {z:Int} {u:Nat} (hu:u=1074) (hz:z.natAbs≤2^53):(z*((2^u:Nat):Int)).natAbs<top:=by
 rw[Int.natAbs_mul,Int.natAbs_natCast]
 refine q2s hu (Nat.mul_lt_mul_of_pos_right ?_ (Nat.two_pow_pos u))
 omega
theorem q8b {z:Int} {u r:Nat} (hu:u=1074) (hz:z.natAbs≤2^53) (h:Rnd (z*((2^u:Nat):Int)) 1 r):FI (2^u) r z:=by
 obtain⟨h1,h2⟩:=Rnd.exact (z:=z*((2^u:Nat):Int)) (Q:=1) (by simpa using h) (by omega) (q4A hz) (q3J hu hz)
 exact⟨h.lt,h1,h2⟩
theorem q3v {a b:Int} {u x y r:Nat} (hu:u=1074) (hx:FI (2^u) x a) (hy:FI (2^u) y b) (h:Any (Ieee.double.sub x y) r) (hz:(a-b).natAbs≤2^53):FI (2^u) r (a-b):=by
 have h1:=q9l hx.1 hy.1 hx.2.1 hy.2.1 h
 rw[hx.2.2,hy.2.2,← Int.sub_mul] at h1
 exact q8b hu hz h1
theorem q8F {a b:Int} {u x y r:Nat} (hu:u=1074) (hx:FI (2^u) x a) (hy:FI (2^u) y b) (h:Any (Ieee.double.add x y) r) (hz:(a+b).natAbs≤2^53):FI (2^u) r (a+b):=by
 have h1:=q92 hx.1 hy.1 hx.2.1 hy.2.1 h
 rw[hx.2.2,hy.2.2,← Int.add_mul] at h1
 exact q8b hu hz h1
theorem q7H {a b:Int} {u x y r:Nat} (hu:u=1074) (hx:FI (2^u) x a) (hy:FI (2^u) y b) (h:Any (Ieee.double.mul x y) r) (hz:(a*b).natAbs≤2^53):FI (2^u) r (a*b):=by
 have h1:=q8I hu hx.1 hy.1 hx.2.1 hy.2.1 h
 rw[hx.2.2,hy.2.2,show a*((2^u:Nat):Int)*(b*((2^u:Nat):Int))=a*b*((2^u:Nat):Int)*((2^u:Nat):Int) from by ac_rfl] at h1
 obtain⟨h2,h3⟩:=h1.exact (Nat.two_pow_pos u) (q4A hz) (q3J hu hz)
 exact⟨h1.lt,h2,h3⟩
theorem q6o {a:Int} {U x:Nat} (hx:FI U x a):FI U (FT.rung x) (a.natAbs:Int):=by
 have hr:=FT.rung_lt x
 refine⟨by omega,by rw[FT.rung_small hr];exact hx.2.1,?_⟩
 have h1:Z (FT.rung x)=FT.v (FT.rung x):=by
  unfold EA.Z
  rw[FT.rung_small hr,FT.neg_small hr]
  simp
 rw[h1,← EA.Z_abs,hx.2.2,Int.natAbs_mul,Int.natAbs_natCast]
 push_cast
 rfl
theorem q8H {z:Int} {u:Nat} (hu:u=1074) (hz:z.natAbs≤2^53):FI (2^u) (floatOfInt .f64 z) z:=by
 refine q8b hu hz ?_
 by_cases h0:z=0
 ·subst h0
  have e:floatOfInt .f64 0=FT.wrd false 0:=EA.nearest_nil false 0
  rw[e,Int.zero_mul]
  have:=q3O (P:=0) (Q:=1) false (by omega) hu
  rw[if_pos rfl] at this
  exact this
 ·have hU:=Nat.two_pow_pos u
  have hm:z.natAbs≠0:=by omega
  have hR:IsR (decide (z<0)) z.natAbs 0 (z*((2^u:Nat):Int)) ((1*2^u:Nat):Int):=by
   refine q6I 0 (by omega) ?_
   rw[q3K]
   simp [two]
  have e:floatOfInt .f64 z=FT.wrd (decide (z*((2^u:Nat):Int)<0)) (flV (z*((2^u:Nat):Int)).natAbs (1*2^u)):=q3b hR (by omega) hm
  have:=q3O (P:=z*((2^u:Nat):Int)) (Q:=1) false (by omega) hu
  rw[if_neg (by
   intro h
   rcases Int.mul_eq_zero.1 h with h|h
   ·exact h0 h
   ·omega)] at this
  rw[e]
  exact this
theorem q9q {b:Nat} (h:b<2^64):Z (oppF b)= -Z b∧FT.rung (oppF b)=FT.rung b:=by
 have hr:=FT.rung_lt b
 have e:oppF b=FT.wrd (!FT.neg b) (FT.rung b):=by
  unfold oppF
  rw[q47 b h]
  unfold negV FT.wrd
  rcases FT.neg_cases b h with ⟨h1,h2⟩|⟨h1,h2⟩
  ·rw[h1]
   simp only[if_true,Bool.not_true,Bool.false_eq_true,if_false]
   omega
  ·rw[h1]
   simp only[Bool.false_eq_true,if_false,Bool.not_false,if_true]
   omega
 rw[e,EA.Z_wrd hr,FT.wrd_rung _ _ hr]
 refine⟨?_,rfl⟩
 unfold EA.Z
 cases FT.neg b<;>simp
theorem q8C {k:Nat} (hk:k=971):Z 4377498837804122112=((2^52*2^k:Nat):Int)∧FT.rung 4377498837804122112<FT.infR:=by
 have hv:=EA.v_made (N:=2^52) (k:=k) (by omega) (Or.inr (Nat.le_refl _))
 have e:4377498837804122112=FT.wrd false (k*2^52+2^52):=by rw[hk];rfl
 have hlt:k*2^52+2^52<FT.infR:=by unfold FT.infR;omega
 have h63:k*2^52+2^52<2^63:=by omega
 rw[e,EA.Z_wrd h63,FT.wrd_rung _ _ h63,hv]
 exact⟨rfl,hlt⟩
theorem z_four:Z 4=4∧FT.rung 4<FT.infR:=by decide+kernel
theorem q4Z {b:Nat} (h:FT.rung b<FT.infR):fex b<2047:=(q1P b).2 h
/-- What the bound is, of whole numbers: above 0, below one. -/
theorem q4r {u s m k:Nat} {S:Int} (hu:u=1074) (hs:FI (2^u) s S) (h0:0≤S) (h1:S≤1000000000000000) (hm:Any (Ieee.double.mul s 4377498837804122112) m) (hk:Any (Ieee.double.add m 4) k):
  k<2^64∧FT.rung k<FT.infR∧0<Z k∧Z k<((2^u:Nat):Int):=by
 obtain⟨j,hj⟩:∃ j,j=971:=⟨_,rfl⟩
 obtain⟨hc1,hc2⟩:=q8C hj
 obtain⟨n,rfl⟩:∃ n:Nat,S=n:=⟨S.toNat,by omega⟩
 have hU:=Nat.two_pow_pos u
 have m1:=q8I hu hs.1 (by decide) hs.2.1 hc2 hm
 rw[hs.2.2,hc1,show (n:Int)*((2^u:Nat):Int)*((2^52*2^j:Nat):Int)=((n*(2^52*2^j):Nat):Int)*((2^u:Nat):Int) from by rw[Int.natCast_mul n];ac_rfl] at m1
 have hX:2^52*2^j≤2^u:=by rw[← Nat.pow_add];exact Nat.pow_le_pow_right (by omega) (by omega)
 have qI:4≤2^52*2^j:=by have:=Nat.two_pow_pos j;omega
 have hc:2^50*(2^52*2^j)<2^u:=by
  rw[← Nat.pow_add,← Nat.pow_add];exact Nat.pow_lt_pow_right (by omega) (by omega)
 have qJ:Rp (n*(2^52*2^j)):=by rw[← Nat.pow_add];exact EA.rp_of (by omega)
 have lM:Rp (2^50*(2^52*2^j)):=by rw[← Nat.pow_add];exact EA.rp_of (by omega)
 obtain⟨X,Ep⟩:∃ X,X=2^52*2^j:=⟨_,rfl⟩
 rw[← Ep] at m1 hX qI hc qJ lM
 have hlt:n*X<2^60*2^u:=by
  have h1:n*X≤n*2^u:=Nat.mul_le_mul_left _ hX
  have h2:n*2^u<2^60*2^u:=Nat.mul_lt_mul_of_pos_right (by omega) hU
  omega
 obtain⟨m2,m3⟩:=m1.exact hU (by rw[Int.natAbs_natCast];exact qJ) (by rw[Int.natAbs_natCast];exact q2s hu hlt)
 have k1:=q92 m1.lt (by decide) m2 z_four.2 hk
 rw[m3,z_four.1] at k1
 have hle:n*X+4≤2^50*X:=by
  have h1:n*X+4*X≤2^50*X:=by rw[← Nat.add_mul];exact Nat.mul_le_mul_right _ (by omega)
  omega
 have k2:FT.rung k<FT.infR:=k1.small (2^50*X) lM (q2s hu (by
  have:2^u≤2^60*2^u:=Nat.le_mul_of_pos_left _ (by omega)
  omega)) (by omega)
 obtain⟨v,hv,hz⟩:=Rnd.isRn (z:=((n*X:Nat):Int)+4) (Q:=1) (by simpa using k1) (by omega) k2
 have e1:(((n*X:Nat):Int)+4).natAbs=n*X+4:=by omega
 rw[e1] at hv
 have h4:=hv.ge (c:=4) (EA.rp_small (by omega)) (by omega)
 have h5:=hv.le lM hle
 rw[if_neg (by omega)] at hz
 refine⟨k1.lt,k2,by omega,?_⟩
 rw[hz]
 omega
theorem q5a {u ax ay bx b2 cx cy d1 d2 l e1 e2 r s m k t:Nat} {a1 a2 b1 b3 c1 c2:Int} (hu:u=1074) (h1:FI (2^u) ax a1) (h2:FI (2^u) ay a2) (h3:FI (2^u) bx b1) (h4:FI (2^u) b2 b3) (h5:FI (2^u) cx c1) (h6:FI (2^u) cy c2)
  (g1:a1.natAbs≤1000000) (g2:a2.natAbs≤1000000) (g3:b1.natAbs≤1000000) (g4:b3.natAbs≤1000000) (g5:c1.natAbs≤1000000) (g6:c2.natAbs≤1000000)
  (h:FastBy ax ay bx b2 cx cy d1 d2 l e1 e2 r s m k t):q2F k t=(((b1-a1)*(c2-a2)-(b3-a2)*(c1-a1)).sign,decide ((b1-a1)*(c2-a2)-(b3-a2)*(c1-a1)≠0)):=by
 have f1:=q3v hu h3 h1 h.a1 (by omega)
 have f2:=q3v hu h6 h2 h.a2 (by omega)
 have f4:=q3v hu h4 h2 h.a4 (by omega)
 have f5:=q3v hu h5 h1 h.a5 (by omega)
 have hp:∀ x y:Int,x.natAbs≤2000000→y.natAbs≤2000000→(x*y).natAbs≤4000000000000:=fun x y hx hy=>by
  rw[Int.natAbs_mul]
  exact Nat.mul_le_mul hx hy
 have p1:=hp (b1-a1) (c2-a2) (by omega) (by omega)
 have p2:=hp (b3-a2) (c1-a1) (by omega) (by omega)
 have f3:=q7H hu f1 f2 h.a3 (by omega)
 have f6:=q7H hu f4 f5 h.a6 (by omega)
 generalize (b1-a1)*(c2-a2)=L at *
 generalize (b3-a2)*(c1-a1)=R at *
 have f7:=q8F hu (q6o f3) (q6o f6) h.a7 (by omega)
 have f10:=q3v hu f3 f6 h.a10 (by omega)
 obtain⟨q1,q2,q3,q4⟩:=q4r hu f7 (by omega) (by omega) h.a8 h.a9
 obtain⟨o1,o2⟩:=q9q q1
 have hU:=Nat.two_pow_pos u
 have ko:=q4Y (q4Z f10.2.1) (q4Z q2)
 have kp:=q4Y (x:=t) (y:=oppF k) (q4Z f10.2.1) (q4Z (by rw[o2];exact q2))
 rw[← z_fz,← z_fz] at ko kp
 rw[o1] at kp
 rw[f10.2.2] at ko kp
 generalize ((2^u:Nat):Int)=U at *
 generalize Z k=K at *
 unfold q2F
 rw[ko,kp]
 have Ht:0<U:=by omega
 rcases Int.lt_trichotomy (L-R) 0 with hs|hs|hs
 ·have:(L-R)*U≤ -1*U:=Int.mul_le_mul_of_nonneg_right (by omega) (by omega)
  rw[Int.compare_eq_lt.2 (show (L-R)*U<K by omega),Int.compare_eq_lt.2 (show (L-R)*U< -K by omega),Int.sign_eq_neg_one_of_neg hs,decide_eq_true (by omega:L-R≠0)]
  rfl
 ·rw[hs,Int.zero_mul,Int.compare_eq_lt.2 (show 0<K by omega),Int.compare_eq_gt.2 (show -K<0 by omega)]
  rfl
 ·have:1*U≤(L-R)*U:=Int.mul_le_mul_of_nonneg_right (by omega) (by omega)
  rw[Int.compare_eq_gt.2 (show K<(L-R)*U by omega),Int.sign_eq_one_of_pos hs,decide_eq_true (by omega:L-R≠0)]
  rfl
end Go.Proofs.YtljkfjjchkehaaaGreatDoor.EN
namespace Go.Proofs.YtljkfjjchkehaaaGreatDoor.EN
open Go.ChangeShapes Go.WideShapes Go.ChangeAt Go.RowKit
attribute [local go_sem] q0h
theorem q4H (w:World) (b c:Nat) (h:(FloatKind.f64.format.order b c==some .eq)=true):Calls Tryz.prog 20 #[.float .f64 b,.float .f64 c] w fun e w'=>e= .returned (.bool true)∧G w w':=by
 go_enter Tryz.func20,Tryz.ntmps20
 go_wp2_with fail
 go_ret
 exact⟨rfl,G.refl _⟩
/-- Points of the same numbers. -/
def q8y (p q:Nat×Nat):Prop:=(FloatKind.f64.format.order p.1 q.1==some .eq)=true∧(FloatKind.f64.format.order p.2 q.2==some .eq)=true
theorem q6w (w:World) (p q:Nat×Nat) (h:q8y p q):Calls Tryz.prog 71 #[.agg #[.float .f64 p.1,.float .f64 p.2],.agg #[.float .f64 q.1,.float .f64 q.2]] w fun e w'=>e= .returned (.bool true)∧G w w':=by
 obtain⟨px,py⟩:=p
 obtain⟨qx,qy⟩:=q
 dsimp only
 have H1:Hid (∀ w1,_):=fun w1=>q4H w1 px qx h.1
 have H2:Hid (∀ w1,_):=fun w1=>q4H w1 py qy h.2
 clear h
 go_enter Tryz.func71,Tryz.ntmps71
 go_wp2_with fail
 obtain⟨w0,ae,g0,hz0,R0,R1⟩:=q2y w [.float .f64 px,.float .f64 py] [.float .f64 qx,.float .f64 qy] 66 66
 rw[ae]
 clear ae
 obtain⟨a0,a1,-⟩:=R0.out.f2
 obtain⟨a2,a3,-⟩:=R1.out.f2
 go_wp2_with fail
 refine Calls.mono (P:=Tryz.prog) (H1.out _) ?_
 rintro e w1 ⟨rfl,g1⟩
 obtain⟨b0,b1,-⟩:=(R0.out.G g1).f2
 obtain⟨b2,b3,-⟩:=(R1.out.G g1).f2
 go_wp2_with fail
 refine Calls.mono (P:=Tryz.prog) (H2.out _) ?_
 rintro e w2 ⟨rfl,g2⟩
 go_wp2_with fail
 go_ret
 exact⟨rfl,G.trans g0 (G.trans g1 g2)⟩
theorem q6S (w:World) (v u:Value) (l m:List (Nat×Nat)) (hlm:l.length=m.length) (hs:∀ k,k<l.length→q8y (l.getD k (0,0)) (m.getD k (0,0))) (hv:PSl w v l) (hu:PSl w u m) (hn:l.length≤100000):
  Calls Tryz.prog 70 #[v,u,.func (.func 71) #[] #[]] w fun e w'=>e= .returned (.bool true)∧G w w':=by
 obtain⟨pa,ca,rfl,-,hr1⟩:=hv
 obtain⟨pb,cb,rfl,-,hr2⟩:=hu
 have H1:Hid _:=hr1
 have H2:Hid _:=hr2
 have HS:Hid _:=hs
 clear hr1 hr2 hs
 have hcf:∀ args w,(callFunc 71 args).run Tryz.prog w= .ok (.enter 71 args) w:=fun _ _=>by kernel_rfl
 obtain⟨n,hn'⟩:∃ n,n=l.length:=⟨_,rfl⟩
 rw[← hlm,← hn']
 rw[← hn'] at hn
 have HN:Hid (n=l.length):=hn'
 have HM:Hid (n=m.length):=hn'.trans hlm
 clear hn' hlm
 go_enter Tryz.func70,Tryz.ntmps70
 go_wp2_with fail
 go_loopw [15] (fun vk wr=>∃ k:Nat,k≤n∧vk= .int .i64 k∧G w wr) (fun vk _=>n-(intOf vk).toNat)
 case atStart=>exact⟨0,Nat.zero_le _,rfl,G.refl _⟩
 case round=>
  obtain⟨k,hk,rfl,hG⟩:=hrel
  by_cases hkn:k<n
  ·obtain⟨b1,o1,rfl,hB1,jv,jw⟩:=H1.out k (by rw[← HN.out];exact hkn)
   obtain⟨b2,o2,rfl,hB2,jy,jA⟩:=H2.out k (by rw[← HM.out];exact hkn)
   have hx1:=hG.cell (p:=⟨b1,o1+k*2,none⟩) hB1 jv
   have hy1:=hG.cell (p:=⟨b1,o1+k*2+1,none⟩) hB1 jw
   have hx2:=hG.cell (p:=⟨b2,o2+k*2,none⟩) hB2 jy
   have hy2:=hG.cell (p:=⟨b2,o2+k*2+1,none⟩) hB2 jA
   have En:=HS.out k (by rw[← HN.out];exact hkn)
   generalize l.getD k (0,0)=p at *
   generalize m.getD k (0,0)=q at *
   obtain⟨px,py⟩:=p
   obtain⟨qx,qy⟩:=q
   dsimp only at hx1 hy1 hx2 hy2
   have HX:Hid _:=En
   clear En
   have hs:=hG.size
   have hb1:b1<wr.heap.size:=by omega
   have hb2:b2<wr.heap.size:=by omega
   clear jv jw jy jA hB1 hB2
   go_wp2_with fail
   refine q08 (by kernel_rfl) (by kernel_rfl) ?_
   intro W hW
   have hq1:=q04 (w:=W) (a:=⟨b1,o1+k*2,none⟩) (x:= .float .f64 px) (by rw[hW];first|(simp;done)|(simp;omega)|omega) (by rw[hW];first|assumption|(simp [go_sem];done)|(simp [*,go_sem];done))
   have hq2:=q04 (w:=W) (a:=⟨b1,o1+k*2+1,none⟩) (x:= .float .f64 py) (by rw[hW];first|(simp;done)|(simp;omega)|omega) (by rw[hW];first|assumption|(simp [go_sem];done)|(simp [*,go_sem];done))
   have hq3:=q04 (w:=W) (a:=⟨b2,o2+k*2,none⟩) (x:= .float .f64 qx) (by rw[hW];first|(simp;done)|(simp;omega)|omega) (by rw[hW];first|assumption|(simp [go_sem];done)|(simp [*,go_sem];done))
   have hq4:=q04 (w:=W) (a:=⟨b2,o2+k*2+1,none⟩) (x:= .float .f64 qy) (by rw[hW];first|(simp;done)|(simp;omega)|omega) (by rw[hW];first|assumption|(simp [go_sem];done)|(simp [*,go_sem];done))
   clear hW
   repeat (go_big_quiet_step (exact q1e (q6w _ (px,py) (qx,qy) HX.out)))
   refine wpQuiet_nil ?_
   clear hq1 hq2 hq3 hq4
   intro w5 dC
   have vV:=G.trans hG dC
   clear dC hx1 hy1 hx2 hy2
   go_wp2_with fail
   go_roundw
   case rel=>exact⟨k+1,by omega,by go_num,vV⟩
   case measure=>simp only[intOf];omega
  ·obtain rfl:k=n:=by omega
   go_wp2_with fail
   go_ret
   exact⟨rfl,hG⟩
theorem pt_c (w:World) (x y:Nat):Calls Tryz.prog 43 #[.float .f64 x,.float .f64 y] w fun e w'=>e= .returned (.agg #[.float .f64 x,.float .f64 y])∧G w w':=by
 go_enter Tryz.func43,Tryz.ntmps43
 go_wp2_with fail
 have hT:Hid (Rec (w.alloc (.cells #[.float .f64 x,.float .f64 y] 66)) w.heap.size [.float .f64 x,.float .f64 y]):=Rec.new2 w _ _ _
 have g9:G w (w.alloc (.cells #[.float .f64 x,.float .f64 y] 66)):=(G.refl w).alloc _
 generalize w.alloc (.cells #[.float .f64 x,.float .f64 y] 66)=w9 at *
 have jH:=Rec.f2 (Rec.G hT.out (G.refl _))
 have Ad:=jH.1
 have Ae:=jH.2.1
 have Af:=jH.2.2.1
 have Ag:=jH.2.2.2
 clear jH
 have iw:=Rec.lt hT.out
 refine bodyPost_ret (v:= .agg #[.float .f64 x,.float .f64 y]) (by simp [results,Tryz.results43,go_sem, *]) rfl ?_
 exact⟨rfl,g9⟩
end Go.Proofs.YtljkfjjchkehaaaGreatDoor.EN
namespace Go.Proofs.YtljkfjjchkehaaaGreatDoor.EN
open Go.ChangeShapes Go.WideShapes Go.ChangeAt Go.RowKit
attribute [local go_sem] q0h
/-- Points that are not the same. -/
def q65 (p q:Nat×Nat):Prop:=((FloatKind.f64.format.order p.1 q.1==some .eq)&&(FloatKind.f64.format.order p.2 q.2==some .eq))=false
theorem q4G (u v:Nat) (w:World):(Op.equalIn 9999 26 (.float .f64 u) (.float .f64 v)).run Tryz.prog w= .ok (FloatKind.f64.format.order u v==some .eq) w:=by kernel_rfl
set_option maxRecDepth 10000 in
theorem q6a (w:World) (v:Value) (l:List (Nat×Nat)) (h:PSl w v l) (hd:∀ k,k+1<l.length→q65 (l.getD (k+1) (0,0)) (l.getD k (0,0))) (hn:l.length≤1000000):
  Calls Tryz.prog 114 #[v] w fun e w'=>e= .returned v∧G w w':=by
 obtain⟨pa,ca,rfl,aW,hrow⟩:=h
 have HR:Hid _:=hrow
 have HD:Hid _:=hd
 obtain⟨n,hn'⟩:∃ n,n=l.length:=⟨_,rfl⟩
 rw[← hn'] at hn aW ⊢
 have HN:Hid (n=l.length):=hn'
 clear hrow hd hn'
 by_cases h2:n<2
 ·have CK:decide ((n:Int)<2)=true:=decide_eq_true (by omega)
  go_enter Tryz.func114,Tryz.ntmps114
  go_wp2_with fail
  go_ret
  exact⟨rfl,G.refl _⟩
 ·have CK:decide ((n:Int)<2)=false:=decide_eq_false (by omega)
  go_enter Tryz.func114,Tryz.ntmps114
  go_wp2_with fail
  go_loopw [3] (fun vk wr=>∃ k:Nat,k<n∧vk= .int .i64 (k+1)∧G w wr) (fun vk _=>n+1-(intOf vk).toNat)
  case atStart=>exact⟨0,by omega,rfl,G.refl _⟩
  case round=>
   obtain⟨k,hk,rfl,hG⟩:=hrel
   by_cases hkn:k+1<n
   ·have hkz:decide ((k:Int)+1<(n:Int))=true:=decide_eq_true (by omega)
    obtain⟨b1,o1,rfl,hB1,jv,jw⟩:=HR.out (k+1) (by rw[← HN.out];exact hkn)
    obtain⟨b2,o2,e2,hB2,jy,jA⟩:=HR.out k (by rw[← HN.out];omega)
    cases e2
    have hx1:=hG.cell (p:=⟨b1,o1+(k+1)*2,none⟩) hB1 jv
    have hy1:=hG.cell (p:=⟨b1,o1+(k+1)*2+1,none⟩) hB1 jw
    have hx2:=hG.cell (p:=⟨b1,o1+k*2,none⟩) hB1 jy
    have hy2:=hG.cell (p:=⟨b1,o1+k*2+1,none⟩) hB1 jA
    have hdk:=HD.out k (by rw[← HN.out];exact hkn)
    generalize l.getD (k+1) (0,0)=p at *
    generalize l.getD k (0,0)=q at *
    obtain⟨px,py⟩:=p
    obtain⟨qx,qy⟩:=q
    unfold q65 at hdk
    dsimp only at hx1 hy1 hx2 hy2 hdk
    have hs:=hG.size
    have hb1:b1<wr.heap.size:=by omega
    clear jv jw jy jA hB1 hB2
    go_wp2_with fail
    have he1:=fun w=>q4G px qx w
    have he2:=fun w=>q4G py qy w
    generalize (FloatKind.f64.format.order px qx==some .eq)=t1 at hdk he1
    generalize (FloatKind.f64.format.order py qy==some .eq)=t2 at hdk he2
    cases t1
    ·clear hdk he2
     refine q08 (by kernel_rfl) (by kernel_rfl) ?_
     intro W hW
     have hq1:=q04 (w:=W) (a:=⟨b1,o1+k*2,none⟩) (x:= .float .f64 qx) (by rw[hW];first|(simp;done)|(simp;omega)|omega) (by rw[hW];first|assumption|(simp [go_sem];done)|(simp [*,go_sem];done))
     have hq2:=q04 (w:=W) (a:=⟨b1,o1+k*2+1,none⟩) (x:= .float .f64 qy) (by rw[hW];first|(simp;done)|(simp;omega)|omega) (by rw[hW];first|assumption|(simp [go_sem];done)|(simp [*,go_sem];done))
     have hq3:=q04 (w:=W) (a:=⟨b1,o1+(k+1)*2,none⟩) (x:= .float .f64 px) (by rw[hW];first|(simp;done)|(simp;omega)|omega) (by rw[hW];first|assumption|(simp [go_sem];done)|(simp [*,go_sem];done))
     have hq4:=q04 (w:=W) (a:=⟨b1,o1+(k+1)*2+1,none⟩) (x:= .float .f64 py) (by rw[hW];first|(simp;done)|(simp;omega)|omega) (by rw[hW];first|assumption|(simp [go_sem];done)|(simp [*,go_sem];done))
     clear hW
     repeat (go_big_quiet_step (fail))
     refine wpQuiet_nil ?_
     clear hq1 hq2 hq3 hq4
     intro w5 dC
     go_wp2_with fail
     refine⟨⟨k+1,hkn,by go_num,G.trans hG dC⟩,?_⟩
     show n+1-((k:Int)+1+1).toNat<n+1-((k:Int)+1).toNat
     omega
    ·obtain rfl:t2=false:=by simpa using hdk
     clear hdk
     refine q08 (by kernel_rfl) (by kernel_rfl) ?_
     intro W hW
     have iX:=q04 (w:=W) (a:=⟨b1,o1+k*2,none⟩) (x:= .float .f64 qx) (by rw[hW];first|(simp;done)|(simp;omega)|omega) (by rw[hW];first|assumption|(simp [go_sem];done)|(simp [*,go_sem];done))
     have jM:=q04 (w:=W) (a:=⟨b1,o1+k*2+1,none⟩) (x:= .float .f64 qy) (by rw[hW];first|(simp;done)|(simp;omega)|omega) (by rw[hW];first|assumption|(simp [go_sem];done)|(simp [*,go_sem];done))
     have jN:=q04 (w:=W) (a:=⟨b1,o1+(k+1)*2,none⟩) (x:= .float .f64 px) (by rw[hW];first|(simp;done)|(simp;omega)|omega) (by rw[hW];first|assumption|(simp [go_sem];done)|(simp [*,go_sem];done))
     have hq8:=q04 (w:=W) (a:=⟨b1,o1+(k+1)*2+1,none⟩) (x:= .float .f64 py) (by rw[hW];first|(simp;done)|(simp;omega)|omega) (by rw[hW];first|assumption|(simp [go_sem];done)|(simp [*,go_sem];done))
     clear hW
     repeat (go_big_quiet_step (fail))
     refine wpQuiet_nil ?_
     clear iX jM jN hq8
     intro w5 dC
     go_wp2_with fail
     refine⟨⟨k+1,hkn,by go_num,G.trans hG dC⟩,?_⟩
     show n+1-((k:Int)+1+1).toNat<n+1-((k:Int)+1).toNat
     omega
   ·have hkz:decide ((k:Int)+1<(n:Int))=false:=decide_eq_false (by omega)
    go_wp2_with fail
    go_ret
    exact⟨rfl,hG⟩
end Go.Proofs.YtljkfjjchkehaaaGreatDoor.EN
