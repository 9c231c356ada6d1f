/- What is proved here: the reference's ratios told by core's fractions: a float's, sums, differences, products, over this seat's translation.
What is proved here: the reference's ratios told by core's fractions, new ones too: products, Cmp, over this seat's translation.
What is proved here: contracts of the reference: Total, over this seat's translation.
What is proved here: contracts of the reference: F, CheckList, over this seat's translation.
What is proved here: contracts of package expan: read, readBoth of lists of any kind, over this seat's translation.
What is proved here: contracts of package expan: Of, Mul, Cmp of lists that they refuse, over this seat's translation. -/
import Derived.Test.YtljkfjjchkehaaaGreatDoorC31
import Derived.Test.YtljkfjjchkehaaaGreatDoorC31
import Derived.Test.YtljkfjjchkehaaaGreatDoorC29
import Derived.Test.YtljkfjjchkehaaaGreatDoorC29
import Derived.Test.YtljkfjjchkehaaaGreatDoorC34
import Derived.Test.YtljkfjjchkehaaaGreatDoorC30
import Derived.Test.YtljkfjjchkehaaaGreatDoorC2
import Derived.Test.YtljkfjjchkehaaaGreatDoorC32
import Derived.Test.YtljkfjjchkehaaaGreatDoorC32
namespace Go.Proofs.YtljkfjjchkehaaaGreatDoor.EN
open Go.ChangeShapes Go.WideShapes Go.ChangeAt Go.RowKit
/-- At block p lies the reference's ratio of a fraction. -/
def RIs (w:World) (p:Nat) (q:Rat):Prop:=RatIs w p q.num (q.den:Int)
theorem RIs.G {w w':World} {p:Nat} {q:Rat} (h:RIs w p q) (hp:p<w.heap.size) (g:G w w'):RIs w' p q:=RatIs.G h hp g
/-- A call hands back a new ratio. -/
def q7R (w:World) (q:Rat) (e:Ending) (w':World):Prop:=∃ p,e= .returned (.pointer (some ⟨p,0,none⟩))∧G w w'∧w.heap.size≤p∧p<w'.heap.size∧RIs w' p q
/-- A call sets a ratio. -/
def SetRat (w:World) (b:Nat) (q:Rat) (e:Ending) (w':World):Prop:=e= .returned (.pointer (some ⟨b,0,none⟩))∧GX b w w'∧RIs w' b q
theorem SetRat.ret {w0 w:World} {b:Nat} {q:Rat} {e:Ending} {w':World} (g:G w0 w) (hb:w0.heap.size≤b) (hs:b<w.heap.size) (h:SetRat w b q e w'):q7R w0 q e w':=
 ⟨b,h.1,GX.fresh g h.2.1 hb,hb,Nat.lt_of_lt_of_le hs h.2.1.size,h.2.2⟩
theorem q9L (w:World) (b:Nat) (h:b<2^64) (hf:fex b<2047):Calls Tryz.prog 30 #[.float .f64 b] w (q7R w (Uz (fz b))):=by
 have hq:FQ b=Uz (fz b):=q5D h hf
 obtain⟨e1,e2⟩:=q2f (q5K (fex b)) (q:=FQ b) rfl
 refine(qb7 w b (fex b) (b%2^52) (fmag b) h rfl rfl hf rfl).mono ?_
 rintro e w' ⟨p,rfl,g,k1,k2,k3⟩
 refine⟨p,rfl,g,k1,k2,?_⟩
 rw[← hq]
 unfold RIs
 rw[e1,e2]
 exact k3
theorem qb32 {q:Rat} {K:Nat} (h:QB q K):q.num.natAbs<2^(32*(2*K))∧q.den<2^(32*(2*K)):=by
 have e:32*(2*K)=64*K:=by omega
 rw[e]
 exact h
theorem qbr (w:World) (bz bx b2:Nat) (s1 s2:Int) (x y:Rat) (K:Nat) (hK:K≤40000) (qx:QB x K) (qy:QB y K)
  (hbz:bz<w.heap.size) (hbx:bx<w.heap.size) (hby:b2<w.heap.size) (hz:RatIs w bz s1 s2) (hx:RIs w bx x) (hy:RIs w b2 y):
  Calls Tryz.prog 31 #[.pointer (some ⟨bz,0,none⟩),.pointer (some ⟨bx,0,none⟩),.pointer (some ⟨b2,0,none⟩)] w (SetRat w bz (x-y)):=by
 obtain⟨e1,e2⟩:=q2f (Nat.mul_pos x.den_pos y.den_pos) (q:=x-y) (Rat.sub_def' x y)
 refine(qbj w bz bx b2 s1 s2 x.num y.num x.den y.den (2*K) (by omega) (qb32 qx).1 (qb32 qy).1 (qb32 qx).2 (qb32 qy).2 x.den_pos y.den_pos hbz hbx hby hz hx hy).mono ?_
 rintro e w' ⟨k1,k2,k3⟩
 refine⟨k1,k2,?_⟩
 unfold RIs
 rw[e1,e2]
 exact k3
/-- The same, or a new ratio, which stands for 0. -/
def RV (w:World) (p:Nat) (q:Rat):Prop:=RIs w p q∨(q=0∧RatIs w p 0 0)
theorem RV.G {w w':World} {p:Nat} {q:Rat} (h:RV w p q) (hp:p<w.heap.size) (g:G w w'):RV w' p q:=by
 rcases h with h|⟨h1,h⟩
 ·exact Or.inl (h.G hp g)
 ·exact Or.inr ⟨h1,RatIs.G h hp g⟩
def RetV (w:World) (q:Rat) (e:Ending) (w':World):Prop:=∃ p,e= .returned (.pointer (some ⟨p,0,none⟩))∧G w w'∧w.heap.size≤p∧p<w'.heap.size∧RV w' p q
theorem RV.v {w:World} {p:Nat} {q:Rat} (h:RV w p q):RatV w p q.num q.den:=by
 rcases h with h|⟨rfl,h⟩
 ·exact Or.inl h
 ·exact Or.inr ⟨rfl,rfl,h⟩
theorem qbR (w:World) (bz bx b2:Nat) (s1 s2:Int) (x y:Rat) (K:Nat) (hK:K≤40000) (qx:QB x K) (qy:QB y K)
  (hbz:bz<w.heap.size) (hbx:bx<w.heap.size) (hby:b2<w.heap.size) (hz:RatIs w bz s1 s2) (hx:RV w bx x) (hy:RV w b2 y):
  Calls Tryz.prog 29 #[.pointer (some ⟨bz,0,none⟩),.pointer (some ⟨bx,0,none⟩),.pointer (some ⟨b2,0,none⟩)] w (SetRat w bz (x+y)):=by
 obtain⟨e1,e2⟩:=q2f (Nat.mul_pos x.den_pos y.den_pos) (q:=x+y) (Rat.add_def' x y)
 refine(qc7 w bz bx b2 s1 s2 x.num y.num x.den y.den (2*K) (by omega) (qb32 qx).1 (qb32 qy).1 (qb32 qx).2 (qb32 qy).2 x.den_pos y.den_pos hbz hbx hby hz hx.v hy.v).mono ?_
 rintro e w' ⟨k1,k2,k3⟩
 refine⟨k1,k2,?_⟩
 unfold RIs
 rw[e1,e2]
 exact k3
theorem qaW (w:World) (bz bx b2:Nat) (s1 s2:Int) (x y:Rat) (K:Nat) (hK:K≤40000) (qx:QB x K) (qy:QB y K)
  (hbz:bz<w.heap.size) (hbx:bx<w.heap.size) (hby:b2<w.heap.size) (hz:RatIs w bz s1 s2) (hx:RV w bx x) (hy:RV w b2 y):
  Calls Tryz.prog 14 #[.pointer (some ⟨bz,0,none⟩),.pointer (some ⟨bx,0,none⟩),.pointer (some ⟨b2,0,none⟩)] w (SetRat w bz (x*y)):=by
 obtain⟨e1,e2⟩:=q2f (Nat.mul_pos x.den_pos y.den_pos) (q:=x*y) (Rat.mul_def' x y)
 refine(qbC w bz bx b2 s1 s2 x.num y.num x.den y.den (2*K) (by omega) (qb32 qx).1 (qb32 qy).1 (qb32 qx).2 (qb32 qy).2 x.den_pos y.den_pos hbz hbx hby hz hx.v hy.v).mono ?_
 rintro e w' ⟨k1,k2,k3⟩
 refine⟨k1,k2,?_⟩
 unfold RIs
 rw[e1,e2]
 exact k3
theorem qaZ (w:World) (bz b2:Nat) (x y:Rat) (K:Nat) (hK:K≤40000) (qx:QB x K) (qy:QB y K)
  (hbz:bz<w.heap.size) (hby:b2<w.heap.size) (hx:RV w bz x) (hy:RIs w b2 y):
  Calls Tryz.prog 29 #[.pointer (some ⟨bz,0,none⟩),.pointer (some ⟨bz,0,none⟩),.pointer (some ⟨b2,0,none⟩)] w (SetRat w bz (x+y)):=by
 have hz:∃ s1 s2,RatIs w bz s1 s2:=by
  rcases hx with h|⟨-,h⟩
  ·exact⟨_,_,h⟩
  ·exact⟨_,_,h⟩
 obtain⟨s1,s2,hz⟩:=hz
 exact qbR w bz bz b2 s1 s2 x y K hK qx qy hbz hbz hby hz hx (Or.inl hy)
theorem qbc (w:World) (bx b2:Nat) (x y:Rat) (K:Nat) (hK:K≤40000) (qx:QB x K) (qy:QB y K)
  (hbx:bx<w.heap.size) (hby:b2<w.heap.size) (hx:RV w bx x) (hy:RV w b2 y):
  Calls Tryz.prog 15 #[.pointer (some ⟨bx,0,none⟩),.pointer (some ⟨b2,0,none⟩)] w fun e w'=>e= .returned (.int .i64 (x.num*y.den-y.num*x.den).sign)∧G w w':=by
 have hfin:∀ (e:Ending) (w':World),(e= .returned (.int .i64 (cmpI (x.num*(y.den:Int)) (y.num*(x.den:Int))))∧G w w')→(e= .returned (.int .i64 (x.num*y.den-y.num*x.den).sign)∧G w w'):=by
  rintro e w' ⟨rfl,g⟩
  exact⟨by rw[q5t],g⟩
 exact Calls.mono (P:=Tryz.prog) (qbg w bx b2 x.num y.num x.den y.den (2*K) (by omega) (qb32 qx).1 (qb32 qy).1 (qb32 qx).2 (qb32 qy).2 x.den_pos y.den_pos hbx hby hx.v hy.v) hfin
theorem q2H (w:World) (v:Value) (l:List Nat) (h:FSl w v l) (hl:∀ b∈l,b<2^64) (hf:Fin l) (hn:l.length≤2000) (hb:∀ k,QB (Uz ((l.map fz).take k).sum) 80) (hz:∀ b,QB (Uz (fz b)) 80):
  Calls Tryz.prog 12 #[v] w (RetV w (Uz (l.map fz).sum)):=by
 obtain⟨pa,ca,rfl,fI,hrow⟩:=h
 have HR:Hid _:=hrow
 have HB:Hid _:=hb
 have HZ:Hid _:=hz
 have HL:Hid (∀ k,k<l.length→l.getD k 0<2^64∧fex (l.getD k 0)<2047):=fun k hk=>by
  have hm:l.getD k 0∈l:=by
   rw[List.getD_eq_getElem?_getD,List.getElem?_eq_getElem hk]
   exact List.getElem_mem hk
  exact⟨hl _ hm,hf _ hm⟩
 obtain⟨n,hn'⟩:∃ n,n=l.length:=⟨_,rfl⟩
 rw[← hn'] at fI hn ⊢
 have HN:Hid (n=l.length):=hn'
 clear hrow hn' fI hb hz hl hf
 go_enter Tryz.func12,Tryz.ntmps12
 go_wp2_with fail
 have hr0:=q45 w 40
 have hga:=(G.refl w).alloc (.cells #[.bool false,.slice none 0 0,.bool false,.slice none 0 0] 40)
 have hzs:w.heap.size<(w.alloc (.cells #[.bool false,.slice none 0 0,.bool false,.slice none 0 0] 40)).heap.size:=by simp
 obtain⟨pz,hpz⟩:∃ p,p=w.heap.size:=⟨_,rfl⟩
 have PV:Hid (pz=w.heap.size):=hpz
 rw[← hpz] at hr0 hzs ⊢
 generalize w.alloc (.cells #[.bool false,.slice none 0 0,.bool false,.slice none 0 0] 40)=w0 at *
 have Ht:Hid (RatIs w0 pz 0 0):=hr0
 clear hr0 hpz
 go_loopw [9] (fun vk wr=>∃ k:Nat,k≤n∧vk= .int .i64 k∧RV wr pz (Uz ((l.map fz).take k).sum)∧G w wr∧pz<wr.heap.size) (fun vk _=>n-(intOf vk).toNat)
 case atStart=>exact⟨0,Nat.zero_le _,rfl,Or.inr ⟨by rw[List.take_zero,List.sum_nil,q2L],Ht.out⟩,hga,hzs⟩
 case round=>
  obtain⟨k,hk,rfl,hv,hG,hp⟩:=hrel
  have HV:Hid (RV _ _ _):=hv
  clear hv Ht hga hzs
  by_cases hkn:k<n
  ·obtain⟨b1,o1,rfl,hB1,hx'⟩:=HR.out k (by rw[← HN.out];exact hkn)
   have hx:=hG.cell (p:=⟨b1,o1+k,none⟩) hB1 hx'
   have HS:Hid (Uz ((l.map fz).take (k+1)).sum=Uz ((l.map fz).take k).sum+Uz (fz (l.getD k 0))):=by
    show Uz ((l.map fz).take (k+1)).sum=_
    rw[q88,q2k _ k (by rw[List.length_map,← HN.out];exact hkn),getD_map (by rw[← HN.out];exact hkn)]
   obtain⟨kD,PW⟩:=HL.out k (by rw[← HN.out];exact hkn)
   have Ug:Hid (QB (Uz ((l.map fz).take k).sum) 80):=HB.out k
   have Uh:Hid (QB (Uz (fz (l.getD k 0))) 80):=HZ.out _
   generalize l.getD k 0=x at *
   have HX:Hid (∀ w1,_):=fun w1=>q9L w1 x kD PW
   clear hx' kD PW hB1
   go_wp2_with fail
   refine Calls.mono (P:=Tryz.prog) (HX.out _) ?_
   rintro e1 w1 ⟨p2,rfl,g1,hp2,Nk,hr2⟩
   have HA:Hid _:=qaZ w1 pz p2 _ _ 80 (by omega) Ug.out Uh.out (Nat.lt_of_lt_of_le hp g1.size) Nk (RV.G HV.out hp g1) hr2
   clear hr2 HX
   go_wp2_with fail
   refine Calls.mono (P:=Tryz.prog) HA.out ?_
   rintro e2 w2 ⟨rfl,g2,hr⟩
   have HR2:Hid (RIs _ _ _):=hr
   clear hr HA
   go_wp2_with fail
   refine⟨⟨k+1,hkn,by go_num,Or.inl (by rw[HS.out];exact HR2.out),GX.fresh (G.trans hG g1) g2 (Nat.le_of_eq PV.out.symm),Nat.lt_of_lt_of_le hp (Nat.le_trans g1.size g2.size)⟩,?_⟩
   simp only[intOf]
   go_num
  ·obtain rfl:k=n:=by omega
   have HS:Hid (((l.map fz).take k).sum=(l.map fz).sum):=by
    show ((l.map fz).take k).sum=_
    rw[List.take_of_length_le (by rw[List.length_map,← HN.out];exact Nat.le_refl _)]
   go_wp2_with fail
   go_ret
   exact⟨pz,rfl,hG,Nat.le_of_eq PV.out.symm,hp,by rw[← HS.out];exact HV.out⟩
theorem q5o (w:World) (b:Nat) (h:b<2^64):Calls Tryz.prog 44 #[.float .f64 b] w fun e w'=>e= .returned (.bool (decide (fex b<2047)))∧G w w':=by
 have e:decide (fex b<2047)=decide (FT.rung b<FT.infR):=by
  have:=q42 b
  exact decide_eq_decide.2 this
 rw[e]
 exact q90 b w h
theorem q66 (w:World) (c a:Int):Calls Tryz.prog 13 #[.int .i64 c,.int .i64 a] w fun e w'=>e= .returned (.agg #[.int .i64 c,.int .i64 a])∧G w w':=by
 go_enter Tryz.func13,Tryz.ntmps13
 go_wp2_with fail
 have R0:Hid (Rec (w.alloc (.cells #[.int .i64 c,.int .i64 a] 29)) w.heap.size [.int .i64 c,.int .i64 a]):=Rec.new2 w _ _ _
 have g0:G w (w.alloc (.cells #[.int .i64 c,.int .i64 a] 29)):=(G.refl w).alloc _
 generalize w.alloc (.cells #[.int .i64 c,.int .i64 a] 29)=w0 at *
 have bW:=Rec.f2 (Rec.G R0.out (G.refl _))
 have eB:=bW.1
 have eD:=bW.2.1
 have eF:=bW.2.2.1
 have eG:=bW.2.2.2
 clear bW
 refine bodyPost_ret (v:= .agg #[.int .i64 c,.int .i64 a]) (by simp [results,Tryz.results13,go_sem, *]) rfl ?_
 exact⟨rfl,g0⟩
/-- What is told of a list. -/
def Listed (l:List Nat) (c a:Int):Prop:=(2000<l.length∧c=2∧a=0)∨(l.length≤2000∧c=0∧a=0∧Fin l)∨(l.length≤2000∧∃ i:Nat,c=4∧a=i∧i<l.length∧¬ fex (l.getD i 0)<2047∧∀ j,j<i→fex (l.getD j 0)<2047)
def q7v (w:World) (l:List Nat) (e:Ending) (w':World):Prop:=∃ c a:Int,e= .returned (.agg #[.int .i64 c,.int .i64 a])∧G w w'∧Listed l c a
theorem q1f (w:World) (v:Value) (l:List Nat) (h:FSl w v l) (hl:∀ b∈l,b<2^64) (hn:l.length<5000):
  Calls Tryz.prog 10 #[v] w (q7v w l):=by
 obtain⟨pa,ca,rfl,-,hrow⟩:=h
 have HR:Hid _:=hrow
 have HL:Hid (∀ k,k<l.length→l.getD k 0<2^64):=fun k hk=>hl _ (by
  rw[List.getD_eq_getElem?_getD,List.getElem?_eq_getElem hk]
  exact List.getElem_mem hk)
 have HF:Hid (∀ w1 c a,_):=fun w1 c a=>q66 w1 c a
 obtain⟨n,hn'⟩:∃ n,n=l.length:=⟨_,rfl⟩
 rw[← hn'] at hn ⊢
 have HN:Hid (n=l.length):=hn'
 clear hrow hl hn'
 by_cases h2:2000<n
 ·have hlim:decide ((2000:Int)<n)=true:=decide_eq_true (by omega)
  go_enter Tryz.func10,Tryz.ntmps10
  go_wp2_with fail
  obtain⟨w0,aB,g0,hz0,R0⟩:=q0e w [.int .i64 0,.int .i64 0] 29
  rw[aB]
  clear aB
  refine Calls.mono (P:=Tryz.prog) (HF.out w0 2 0) ?_
  rintro e1 w1 ⟨rfl,g1⟩
  have bW:=Rec.f2 (Rec.G R0.out (g1))
  have eB:=bW.1
  have eD:=bW.2.1
  have eF:=bW.2.2.1
  have eG:=bW.2.2.2
  clear bW
  go_wp2_with fail
  go_wp2_with fail
  have hT:Hid (Rec (World.setCell (World.setCell w1 ⟨w.heap.size,0,none⟩ (.int .i64 2)) ⟨w.heap.size,1,none⟩ (.int .i64 0)) (w.heap.size) [.int .i64 2,.int .i64 0]):=Rec.set2 (Rec.G R0.out (g1))
  have g9:=Rec.g2 (b:=w.heap.size) (u:= .int .i64 2) (v:= .int .i64 0) (G.trans g0 g1) (by omega)
  generalize (World.setCell (World.setCell w1 ⟨w.heap.size,0,none⟩ (.int .i64 2)) ⟨w.heap.size,1,none⟩ (.int .i64 0))=w9 at *
  have hF:=Rec.f2 (Rec.G hT.out ((G.refl _)))
  have bg:=hF.1
  have bn:=hF.2.1
  have bC:=hF.2.2.1
  have bD:=hF.2.2.2
  clear hF
  have l7:=Rec.lt hT.out
  refine bodyPost_ret (v:= .agg #[.int .i64 2,.int .i64 0]) (by simp [results,Tryz.results10,go_sem, *]) rfl ?_
  exact⟨2,0,rfl,g9,Or.inl ⟨by rw[← HN.out];exact h2,rfl,rfl⟩⟩
 have hlim:decide ((2000:Int)<n)=false:=decide_eq_false (by omega)
 go_enter Tryz.func10,Tryz.ntmps10
 go_wp2_with fail
 obtain⟨w0,aB,g0,hz0,R0⟩:=q0e w [.int .i64 0,.int .i64 0] 29
 rw[aB]
 clear aB
 go_loopw [11] (fun vk wr=>∃ k:Nat,k≤n∧vk= .int .i64 k∧(∀ j,j<k→fex (l.getD j 0)<2047)∧G w0 wr) (fun vk _=>n-(intOf vk).toNat)
 case atStart=>exact⟨0,Nat.zero_le _,rfl,fun j hj=>by omega,G.refl _⟩
 case round=>
  obtain⟨k,hk,rfl,hf,hG⟩:=hrel
  have HFin:Hid _:=hf
  have RF:Hid (Rec wr w.heap.size [.int .i64 0,.int .i64 0]):=Rec.G R0.out hG
  clear hf
  by_cases hkn:k<n
  ·obtain⟨b1,o1,rfl,hB1,hx'⟩:=HR.out k (by rw[← HN.out];exact hkn)
   have hgw:=G.trans g0 hG
   have hx:=hgw.cell (p:=⟨b1,o1+k,none⟩) hB1 hx'
   have kD:=HL.out k (by rw[← HN.out];exact hkn)
   obtain⟨x,ex⟩:∃ x,x=l.getD k 0:=⟨_,rfl⟩
   have EX:Hid (x=l.getD k 0):=ex
   rw[← ex] at hx kD
   have HX:Hid (∀ w1,_):=fun w1=>q5o w1 x kD
   clear hx' kD ex hB1
   by_cases hfx:fex x<2047
   ·rw[decide_eq_true hfx] at HX
    have HP:Hid (fex (l.getD k 0)<2047):=by rw[← EX.out];exact hfx
    clear hfx
    go_wp2_with fail
    refine Calls.mono (P:=Tryz.prog) (HX.out _) ?_
    rintro e1 w1 ⟨rfl,g1⟩
    go_wp2_with fail
    refine⟨⟨k+1,hkn,by go_num,fun j hj=> ?_,G.trans hG g1⟩,?_⟩
    ·by_cases hjk:j<k
     ·exact HFin.out j hjk
     ·have:j=k:=by omega
      subst this
      exact HP.out
    ·simp only[intOf]
     go_num
   ·rw[decide_eq_false hfx] at HX
    have HP:Hid (¬ fex (l.getD k 0)<2047):=by rw[← EX.out];exact hfx
    clear hfx
    go_wp2_with fail
    refine Calls.mono (P:=Tryz.prog) (HX.out _) ?_
    rintro e1 w1 ⟨rfl,g1⟩
    go_wp2_with fail
    refine Calls.mono (P:=Tryz.prog) (HF.out w1 4 k) ?_
    rintro e1 w2 ⟨rfl,g2⟩
    have aD:=Rec.f2 (Rec.G RF.out (G.trans g1 g2))
    have bG:=aD.1
    have bH:=aD.2.1
    have bI:=aD.2.2.1
    have bJ:=aD.2.2.2
    clear aD
    go_wp2_with fail
    go_wp2_with fail
    have hT:Hid (Rec (World.setCell (World.setCell w2 ⟨w.heap.size,0,none⟩ (.int .i64 4)) ⟨w.heap.size,1,none⟩ (.int .i64 k)) (w.heap.size) [.int .i64 4,.int .i64 k]):=Rec.set2 (Rec.G RF.out (G.trans g1 g2))
    have g9:=Rec.g2 (b:=w.heap.size) (u:= .int .i64 4) (v:= .int .i64 k) (G.trans hgw (G.trans g1 g2)) (by omega)
    generalize (World.setCell (World.setCell w2 ⟨w.heap.size,0,none⟩ (.int .i64 4)) ⟨w.heap.size,1,none⟩ (.int .i64 k))=w9 at *
    have hF:=Rec.f2 (Rec.G hT.out ((G.refl _)))
    have bg:=hF.1
    have bn:=hF.2.1
    have bC:=hF.2.2.1
    have bD:=hF.2.2.2
    clear hF
    have l7:=Rec.lt hT.out
    refine bodyPost_ret (v:= .agg #[.int .i64 4,.int .i64 k]) (by simp [results,Tryz.results10,go_sem, *]) rfl ?_
    exact⟨4,k,rfl,g9,Or.inr (Or.inr ⟨by rw[← HN.out];omega,k,rfl,rfl,by rw[← HN.out];exact hkn,HP.out,HFin.out⟩)⟩
  ·obtain rfl:k=n:=by omega
   have aD:=Rec.f2 (Rec.G RF.out (G.refl _))
   have bG:=aD.1
   have bH:=aD.2.1
   have bI:=aD.2.2.1
   have bJ:=aD.2.2.2
   clear aD
   go_wp2_with fail
   go_wp2_with fail
   have hT:Hid (Rec (World.setCell (World.setCell wr ⟨w.heap.size,0,none⟩ (.int .i64 0)) ⟨w.heap.size,1,none⟩ (.int .i64 0)) (w.heap.size) [.int .i64 0,.int .i64 0]):=Rec.set2 (Rec.G RF.out (G.refl _))
   have g9:=Rec.g2 (b:=w.heap.size) (u:= .int .i64 0) (v:= .int .i64 0) (G.trans g0 hG) (by omega)
   generalize (World.setCell (World.setCell wr ⟨w.heap.size,0,none⟩ (.int .i64 0)) ⟨w.heap.size,1,none⟩ (.int .i64 0))=w9 at *
   have hF:=Rec.f2 (Rec.G hT.out ((G.refl _)))
   have bg:=hF.1
   have bn:=hF.2.1
   have bC:=hF.2.2.1
   have bD:=hF.2.2.2
   clear hF
   have l7:=Rec.lt hT.out
   refine bodyPost_ret (v:= .agg #[.int .i64 0,.int .i64 0]) (by simp [results,Tryz.results10,go_sem, *]) rfl ?_
   refine⟨0,0,rfl,g9,Or.inr (Or.inl ⟨by rw[← HN.out];omega,rfl,rfl,fun b hb=> ?_⟩)⟩
   obtain⟨i,hi,rfl⟩:=List.mem_iff_getElem.1 hb
   have:=HFin.out i (by rw[HN.out];exact hi)
   rw[List.getD_eq_getElem?_getD,List.getElem?_eq_getElem hi] at this
   exact this
def qbZ (w:World) (l:List Nat) (e:Ending) (w':World):Prop:=∃ (v:Value) (c a:Int),e= .returned (.tuple #[v,.agg #[.int .i64 c,.int .i64 a]])∧G w w'∧Listed l c a∧(c=0→NSl w' v (l.map fz))
theorem q44 (w:World) (v:Value) (l:List Nat) (hT:Tab w) (h:FSl w v l) (hl:∀ b∈l,b<2^64):Calls Tryz.prog 52 #[v] w (qbZ w l):=by
 by_cases hn:l.length≤2000
 ·refine(q3B w v l hT h hl hn).mono ?_
  rintro e w' ⟨u,c,a,rfl,g,hv⟩
  refine⟨u,c,a,rfl,g,?_,?_⟩
  ·rcases hv with ⟨rfl,rfl,hf,-⟩|⟨i,rfl,rfl,-,h1,h2,h3⟩
   ·exact Or.inr (Or.inl ⟨hn,rfl,rfl,hf⟩)
   ·exact Or.inr (Or.inr ⟨hn,i,rfl,rfl,h1,by omega,h3⟩)
  ·intro hc
   rcases hv with ⟨-,-,-,hv⟩|⟨i,rfl,-⟩
   ·exact hv
   ·omega
 ·obtain⟨pa,ca,rfl,-,-⟩:=h
  refine(q5B w pa l.length ca (by omega)).mono ?_
  rintro e w' ⟨rfl,g⟩
  exact⟨_,2,0,rfl,g,Or.inl ⟨by omega,rfl,rfl⟩,fun h=>by omega⟩
/-- The fault of both lists. -/
def Both (l m:List Nat) (c a:Int):Prop:=(c≠0∧Listed l c a)∨(Listed l 0 0∧Listed m c a)
theorem q2O (w:World) (v u:Value) (l m:List Nat) (hT:Tab w) (h:FSl w v l) (hu:FSl w u m) (hl:∀ b∈l,b<2^64) (hm:∀ b∈m,b<2^64):
  Calls Tryz.prog 55 #[v,u] w fun e w'=>∃ (x y:Value) (c a:Int),e= .returned (.tuple #[x,y,.agg #[.int .i64 c,.int .i64 a]])∧G w w'∧Both l m c a:=by
 have HR:Hid (∀ w1,G w w1→_):=fun w1 g=>q44 w1 v l (hT.G g) (h.G g) hl
 have HR2:Hid (∀ w1,G w w1→_):=fun w1 g=>q44 w1 u m (hT.G g) (hu.G g) hm
 obtain⟨pa,ca,rfl,-,-⟩:=h
 obtain⟨pb,cb,rfl,-,-⟩:=hu
 clear hT hl hm
 go_enter Tryz.func55,Tryz.ntmps55
 go_wp2_with fail
 obtain⟨w0,aB,g0,hz0,R0⟩:=q0e w [.int .i64 0,.int .i64 0] 29
 rw[aB]
 clear aB
 refine Calls.mono (P:=Tryz.prog) (HR.out w0 g0) ?_
 intro e1 w1 hs
 obtain⟨v,c,a,rfl,g1,hv,-⟩:=hs
 have RF:Hid (Rec w1 w.heap.size [.int .i64 0,.int .i64 0]):=Rec.G R0.out g1
 have bU:=G.trans g0 g1
 have HV:Hid (Listed l c a):=hv
 clear R0 HR hz0 g0 g1 hv
 have yL:Hid (Rec ((w1.setCell ⟨w.heap.size,0,none⟩ (.int .i64 c)).setCell ⟨w.heap.size,1,none⟩ (.int .i64 a)) w.heap.size [.int .i64 c,.int .i64 a]):=Rec.set2 RF.out
 have g12:G w ((w1.setCell ⟨w.heap.size,0,none⟩ (.int .i64 c)).setCell ⟨w.heap.size,1,none⟩ (.int .i64 a)):=Rec.g2 (b:=w.heap.size) bU (by omega)
 by_cases hc:c=0
 ·have ha:a=0:=by
   rcases HV.out with ⟨-,h,-⟩|⟨-,-,h,-⟩|⟨-,i,h,-⟩<;>omega
  subst hc;subst ha
  have aD:=Rec.f2 (Rec.G RF.out (G.refl _))
  have bG:=aD.1
  have bH:=aD.2.1
  have bI:=aD.2.2.1
  have bJ:=aD.2.2.2
  clear aD
  have hlt:=RF.out.lt
  go_wp2_with fail
  clear bG bH bI bJ hlt RF bU
  generalize (w1.setCell ⟨w.heap.size,0,none⟩ (.int .i64 0)).setCell ⟨w.heap.size,1,none⟩ (.int .i64 0)=w2 at *
  refine Calls.mono (P:=Tryz.prog) (HR2.out w2 g12) ?_
  intro e1 w3 hs
  obtain⟨u,c,a,rfl,g3,hu,-⟩:=hs
  have pX:Hid (Rec w3 w.heap.size [.int .i64 0,.int .i64 0]):=Rec.G yL.out g3
  have g13:=G.trans g12 g3
  have HU:Hid (Listed m c a):=hu
  clear hu yL HR2 g3 g12
  have pI:Hid (Rec ((w3.setCell ⟨w.heap.size,0,none⟩ (.int .i64 c)).setCell ⟨w.heap.size,1,none⟩ (.int .i64 a)) w.heap.size [.int .i64 c,.int .i64 a]):=Rec.set2 pX.out
  have g14:G w ((w3.setCell ⟨w.heap.size,0,none⟩ (.int .i64 c)).setCell ⟨w.heap.size,1,none⟩ (.int .i64 a)):=Rec.g2 (b:=w.heap.size) g13 (by omega)
  have dP:=Rec.f2 (Rec.G pX.out (G.refl _))
  have jO:=dP.1
  have jP:=dP.2.1
  have jQ:=dP.2.2.1
  have jR:=dP.2.2.2
  clear dP
  have hlt:=pX.out.lt
  go_wp2_with fail
  clear jO jP jQ jR hlt pX g13
  generalize (w3.setCell ⟨w.heap.size,0,none⟩ (.int .i64 c)).setCell ⟨w.heap.size,1,none⟩ (.int .i64 a)=w4 at *
  have bZ:=Rec.f2 (Rec.G pI.out (G.refl _))
  have mM:=bZ.1
  have mO:=bZ.2.1
  have mP:=bZ.2.2.1
  have mQ:=bZ.2.2.2
  clear bZ
  have hlt:=pI.out.lt
  go_region
  go_wp2_with fail
  have hT:Hid (Rec (World.setCell (World.setCell w4 ⟨w.heap.size,0,none⟩ (.int .i64 c)) ⟨w.heap.size,1,none⟩ (.int .i64 a)) (w.heap.size) [.int .i64 c,.int .i64 a]):=Rec.set2 (Rec.G pI.out (G.refl _))
  have g9:=Rec.g2 (b:=w.heap.size) (u:= .int .i64 c) (v:= .int .i64 a) (g14) (by omega)
  generalize (World.setCell (World.setCell w4 ⟨w.heap.size,0,none⟩ (.int .i64 c)) ⟨w.heap.size,1,none⟩ (.int .i64 a))=w9 at *
  have hF:=Rec.f2 (Rec.G hT.out ((G.refl _)))
  have bg:=hF.1
  have bn:=hF.2.1
  have bC:=hF.2.2.1
  have bD:=hF.2.2.2
  clear hF
  have l7:=Rec.lt hT.out
  refine bodyPost_ret (v:= .tuple #[v,u,.agg #[.int .i64 c,.int .i64 a]]) (by simp [results,Tryz.results55,go_sem, *]) rfl ?_
  exact⟨v,u,c,a,rfl,g9.drew,Or.inr ⟨HV.out,HU.out⟩⟩
 ·have hcf:(c==0)=false:=by simpa using hc
  have aD:=Rec.f2 (Rec.G RF.out (G.refl _))
  have bG:=aD.1
  have bH:=aD.2.1
  have bI:=aD.2.2.1
  have bJ:=aD.2.2.2
  clear aD
  have hlt:=RF.out.lt
  go_wp2_with fail
  clear bG bH bI bJ hlt RF bU
  generalize (w1.setCell ⟨w.heap.size,0,none⟩ (.int .i64 c)).setCell ⟨w.heap.size,1,none⟩ (.int .i64 a)=w4 at *
  have oW:=Rec.f2 (Rec.G yL.out (G.refl _))
  have Ig:=oW.1
  have Ih:=oW.2.1
  have Ii:=oW.2.2.1
  have Ij:=oW.2.2.2
  clear oW
  have hlt:=yL.out.lt
  go_region
  go_wp2_with fail
  have hT:Hid (Rec (World.setCell (World.setCell w4 ⟨w.heap.size,0,none⟩ (.int .i64 c)) ⟨w.heap.size,1,none⟩ (.int .i64 a)) (w.heap.size) [.int .i64 c,.int .i64 a]):=Rec.set2 (Rec.G yL.out (G.refl _))
  have g9:=Rec.g2 (b:=w.heap.size) (u:= .int .i64 c) (v:= .int .i64 a) (g12) (by omega)
  generalize (World.setCell (World.setCell w4 ⟨w.heap.size,0,none⟩ (.int .i64 c)) ⟨w.heap.size,1,none⟩ (.int .i64 a))=w9 at *
  have hF:=Rec.f2 (Rec.G hT.out ((G.refl _)))
  have bg:=hF.1
  have bn:=hF.2.1
  have bC:=hF.2.2.1
  have bD:=hF.2.2.2
  clear hF
  have l7:=Rec.lt hT.out
  refine bodyPost_ret (v:= .tuple #[.slice none 0 0,.slice none 0 0,.agg #[.int .i64 c,.int .i64 a]]) (by simp [results,Tryz.results55,go_sem, *]) rfl ?_
  exact⟨_,_,c,a,rfl,g9.drew,Or.inl ⟨hc,HV.out⟩⟩
theorem q0q {l:List Nat} {c a c' a':Int} (h:Listed l c a) (h':Listed l c' a'):c=c'∧a=a':=by
 have hbad:∀ i:Nat,i<l.length→¬ fex (l.getD i 0)<2047→¬ Fin l:=fun i hi h1 h2=>h1 (h2 _ (by
  rw[List.getD_eq_getElem?_getD,List.getElem?_eq_getElem hi]
  exact List.getElem_mem hi))
 rcases h with ⟨k,rfl,rfl⟩|⟨k,rfl,rfl,hf⟩|⟨k,i,rfl,rfl,hi,hx,hj⟩
 ·rcases h' with ⟨k',rfl,rfl⟩|⟨k',-⟩|⟨k',-⟩
  ·exact⟨rfl,rfl⟩
  ·omega
  ·omega
 ·rcases h' with ⟨k',-⟩|⟨k',rfl,rfl,-⟩|⟨k',i',rfl,rfl,hi',hx',-⟩
  ·omega
  ·exact⟨rfl,rfl⟩
  ·exact absurd hf (hbad i' hi' hx')
 ·rcases h' with ⟨k',-⟩|⟨k',rfl,rfl,hf'⟩|⟨k',i',rfl,rfl,hi',hx',hj'⟩
  ·omega
  ·exact absurd hf' (hbad i hi hx)
  ·have:i=i':=by
    rcases Nat.lt_trichotomy i i' with h|h|h
    ·exact absurd (hj' i h) hx
    ·exact h
    ·exact absurd (hj i' h) hx'
   exact⟨rfl,by rw[this]⟩
theorem q8h (w:World) (v u:Value) (l m:List Nat) (hT:Tab w) (h:FSl w v l) (hu:FSl w u m) (hl:∀ b∈l,b<2^64) (hm:∀ b∈m,b<2^64) (hbad:¬ (Listed l 0 0∧Listed m 0 0)):
  Calls Tryz.prog 17 #[v,u] w fun e w'=>∃ c a:Int,e= .returned (.tuple #[.slice none 0 0,.agg #[.int .i64 c,.int .i64 a]])∧G w w'∧c≠0∧Both l m c a:=by
 have HR:Hid (∀ w1,G w w1→_):=fun w1 g=>q2O w1 v u l m (hT.G g) (h.G g) (hu.G g) hl hm
 obtain⟨pa,ca,rfl,-,-⟩:=h
 obtain⟨pb,cb,rfl,-,-⟩:=hu
 have HB:Hid _:=hbad
 clear hT hl hm hbad
 go_enter Tryz.func17,Tryz.ntmps17
 go_wp2_with fail
 obtain⟨w0,aB,g0,hz0,R0⟩:=q0e w [.int .i64 0,.int .i64 0] 29
 rw[aB]
 clear aB
 refine Calls.mono (P:=Tryz.prog) (HR.out w0 g0) ?_
 intro e1 w1 hs
 obtain⟨x,y,c,a,rfl,g1,hv⟩:=hs
 have RF:Hid (Rec w1 w.heap.size [.int .i64 0,.int .i64 0]):=Rec.G R0.out g1
 have bU:=G.trans g0 g1
 have HV:Hid (Both l m c a):=hv
 have hc:c≠0:=by
  intro e
  rcases hv with ⟨h,-⟩|⟨h1,h2⟩
  ·exact h e
  ·refine HB.out ⟨h1,?_⟩
   rcases h2 with ⟨-,h,-⟩|⟨h3,-,h4,h5⟩|⟨-,i,h,-⟩
   ·omega
   ·exact Or.inr (Or.inl ⟨h3,rfl,rfl,h5⟩)
   ·omega
 have hcf:(c==0)=false:=by simpa using hc
 clear R0 HR hz0 g0 g1 hv
 have aD:=Rec.f2 (Rec.G RF.out (G.refl _))
 have bG:=aD.1
 have bH:=aD.2.1
 have bI:=aD.2.2.1
 have bJ:=aD.2.2.2
 clear aD
 have hlt:=RF.out.lt
 go_wp2_with fail
 go_region
 go_wp2_with fail
 have hT:Hid (Rec (World.setCell (World.setCell w1 ⟨w.heap.size,0,none⟩ (.int .i64 c)) ⟨w.heap.size,1,none⟩ (.int .i64 a)) (w.heap.size) [.int .i64 c,.int .i64 a]):=Rec.set2 (Rec.G RF.out (G.refl _))
 have g9:=Rec.g2 (b:=w.heap.size) (u:= .int .i64 c) (v:= .int .i64 a) (bU) (by omega)
 generalize (World.setCell (World.setCell w1 ⟨w.heap.size,0,none⟩ (.int .i64 c)) ⟨w.heap.size,1,none⟩ (.int .i64 a))=w9 at *
 have hF:=Rec.f2 (Rec.G hT.out ((G.refl _)))
 have bg:=hF.1
 have bn:=hF.2.1
 have bC:=hF.2.2.1
 have bD:=hF.2.2.2
 clear hF
 have l7:=Rec.lt hT.out
 refine bodyPost_ret (v:= .tuple #[.slice none 0 0,.agg #[.int .i64 c,.int .i64 a]]) (by simp [results,Tryz.results17,go_sem, *]) rfl ?_
 exact⟨c,a,rfl,(g9.alloc _).drew,hc,HV.out⟩
theorem q76 (w:World) (v u:Value) (l m:List Nat) (hT:Tab w) (h:FSl w v l) (hu:FSl w u m) (hl:∀ b∈l,b<2^64) (hm:∀ b∈m,b<2^64) (hbad:¬ (Listed l 0 0∧Listed m 0 0)):
  Calls Tryz.prog 18 #[v,u] w fun e w'=>∃ c a:Int,e= .returned (.tuple #[.int .i64 0,.agg #[.int .i64 c,.int .i64 a]])∧G w w'∧c≠0∧Both l m c a:=by
 have HR:Hid (∀ w1,G w w1→_):=fun w1 g=>q2O w1 v u l m (hT.G g) (h.G g) (hu.G g) hl hm
 obtain⟨pa,ca,rfl,-,-⟩:=h
 obtain⟨pb,cb,rfl,-,-⟩:=hu
 have HB:Hid _:=hbad
 clear hT hl hm hbad
 go_enter Tryz.func18,Tryz.ntmps18
 go_wp2_with fail
 obtain⟨w0,aB,g0,hz0,R0⟩:=q0e w [.int .i64 0,.int .i64 0] 29
 rw[aB]
 clear aB
 refine Calls.mono (P:=Tryz.prog) (HR.out w0 g0) ?_
 intro e1 w1 hs
 obtain⟨x,y,c,a,rfl,g1,hv⟩:=hs
 have RF:Hid (Rec w1 w.heap.size [.int .i64 0,.int .i64 0]):=Rec.G R0.out g1
 have bU:=G.trans g0 g1
 have HV:Hid (Both l m c a):=hv
 have hc:c≠0:=by
  intro e
  rcases hv with ⟨h,-⟩|⟨h1,h2⟩
  ·exact h e
  ·refine HB.out ⟨h1,?_⟩
   rcases h2 with ⟨-,h,-⟩|⟨h3,-,h4,h5⟩|⟨-,i,h,-⟩
   ·omega
   ·exact Or.inr (Or.inl ⟨h3,rfl,rfl,h5⟩)
   ·omega
 have hcf:(c==0)=false:=by simpa using hc
 clear R0 HR hz0 g0 g1 hv
 have aD:=Rec.f2 (Rec.G RF.out (G.refl _))
 have bG:=aD.1
 have bH:=aD.2.1
 have bI:=aD.2.2.1
 have bJ:=aD.2.2.2
 clear aD
 have hlt:=RF.out.lt
 go_wp2_with fail
 go_region
 go_wp2_with fail
 have hT:Hid (Rec (World.setCell (World.setCell w1 ⟨w.heap.size,0,none⟩ (.int .i64 c)) ⟨w.heap.size,1,none⟩ (.int .i64 a)) (w.heap.size) [.int .i64 c,.int .i64 a]):=Rec.set2 (Rec.G RF.out (G.refl _))
 have g9:=Rec.g2 (b:=w.heap.size) (u:= .int .i64 c) (v:= .int .i64 a) (bU) (by omega)
 generalize (World.setCell (World.setCell w1 ⟨w.heap.size,0,none⟩ (.int .i64 c)) ⟨w.heap.size,1,none⟩ (.int .i64 a))=w9 at *
 have hF:=Rec.f2 (Rec.G hT.out ((G.refl _)))
 have bg:=hF.1
 have bn:=hF.2.1
 have bC:=hF.2.2.1
 have bD:=hF.2.2.2
 clear hF
 have l7:=Rec.lt hT.out
 refine bodyPost_ret (v:= .tuple #[.int .i64 0,.agg #[.int .i64 c,.int .i64 a]]) (by simp [results,Tryz.results18,go_sem, *]) rfl ?_
 exact⟨c,a,rfl,(g9.alloc _).drew,hc,HV.out⟩
theorem qbG (w:World) (v:Value) (l:List Nat) (hT:Tab w) (h:FSl w v l) (hl:∀ b∈l,b<2^64) (hbad:¬ Listed l 0 0):
  Calls Tryz.prog 16 #[v] w fun e w'=>∃ c a:Int,e= .returned (.tuple #[.slice none 0 0,.agg #[.int .i64 c,.int .i64 a]])∧G w w'∧c≠0∧Listed l c a:=by
 have HR:Hid (∀ w1,G w w1→_):=fun w1 g=>q44 w1 v l (hT.G g) (h.G g) hl
 obtain⟨pa,ca,rfl,-,-⟩:=h
 have HB:Hid _:=hbad
 clear hT hl hbad
 go_enter Tryz.func16,Tryz.ntmps16
 go_wp2_with fail
 obtain⟨w0,aB,g0,hz0,R0⟩:=q0e w [.int .i64 0,.int .i64 0] 29
 rw[aB]
 clear aB
 refine Calls.mono (P:=Tryz.prog) (HR.out w0 g0) ?_
 intro e1 w1 hs
 obtain⟨x,c,a,rfl,g1,hv,-⟩:=hs
 have RF:Hid (Rec w1 w.heap.size [.int .i64 0,.int .i64 0]):=Rec.G R0.out g1
 have bU:=G.trans g0 g1
 have HV:Hid (Listed l c a):=hv
 have hc:c≠0:=by
  intro e
  rcases hv with ⟨-,h,-⟩|⟨h3,-,h4,h5⟩|⟨-,i,h,-⟩
  ·omega
  ·exact HB.out (Or.inr (Or.inl ⟨h3,rfl,rfl,h5⟩))
  ·omega
 have hcf:(c==0)=false:=by simpa using hc
 clear R0 HR hz0 g0 g1 hv
 have aD:=Rec.f2 (Rec.G RF.out (G.refl _))
 have bG:=aD.1
 have bH:=aD.2.1
 have bI:=aD.2.2.1
 have bJ:=aD.2.2.2
 clear aD
 have hlt:=RF.out.lt
 go_wp2_with fail
 go_region
 go_wp2_with fail
 have hT:Hid (Rec (World.setCell (World.setCell w1 ⟨w.heap.size,0,none⟩ (.int .i64 c)) ⟨w.heap.size,1,none⟩ (.int .i64 a)) (w.heap.size) [.int .i64 c,.int .i64 a]):=Rec.set2 (Rec.G RF.out (G.refl _))
 have g9:=Rec.g2 (b:=w.heap.size) (u:= .int .i64 c) (v:= .int .i64 a) (bU) (by omega)
 generalize (World.setCell (World.setCell w1 ⟨w.heap.size,0,none⟩ (.int .i64 c)) ⟨w.heap.size,1,none⟩ (.int .i64 a))=w9 at *
 have hF:=Rec.f2 (Rec.G hT.out ((G.refl _)))
 have bg:=hF.1
 have bn:=hF.2.1
 have bC:=hF.2.2.1
 have bD:=hF.2.2.2
 clear hF
 have l7:=Rec.lt hT.out
 refine bodyPost_ret (v:= .tuple #[.slice none 0 0,.agg #[.int .i64 c,.int .i64 a]]) (by simp [results,Tryz.results16,go_sem, *]) rfl ?_
 exact⟨c,a,rfl,(g9.alloc _).drew,hc,HV.out⟩
end Go.Proofs.YtljkfjjchkehaaaGreatDoor.EN
