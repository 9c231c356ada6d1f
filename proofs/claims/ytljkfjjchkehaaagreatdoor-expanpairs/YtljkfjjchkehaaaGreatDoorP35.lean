/- What is proved here: the law on sums of lists: small functions, slices of ints, over this seat's translation.
What is proved here: contracts of the reference: sub, Float64 by core's fractions, ListOf, over this seat's translation.
What is proved here: contracts of the law's helpers: Lend, over this seat's translation.
What is proved here: contracts of the law's helpers: Lists of floats that are the same, over this seat's translation.
What is proved here: what is taken off sums, differences, products and quotients of two pairs (no program), over this seat's translation. -/
import Derived.Test.YtljkfjjchkehaaaGreatDoorP34
import Derived.Deep.Upon
import Derived.Test.YtljkfjjchkehaaaGreatDoorP33
import Derived.Test.YtljkfjjchkehaaaGreatDoorP25
import Derived.Test.YtljkfjjchkehaaaGreatDoorP2
namespace Go.Proofs.YtljkfjjchkehaaaGreatDoor.EN
open Go.ChangeShapes Go.WideShapes Go.ChangeAt Go.RowKit
attribute [local go_sem] q0m
/-- What is appended may be nothing. -/
theorem q7G (w:World) (base:Nat) (v src:Value) (l m:List Nat) (h:FOwn w base v l) (hb:base≤w.heap.size) (hsrc:FSl w src m) (hlen:l.length+m.length≤1000000):
  ∃ v' w',(Builtin.append_ #[22,22] 22 #[v,src]).run Tryz.prog w= .ok v' w'∧FOwn w' base v' (l++m)∧Onto base v w w':=by
 obtain⟨a,c,rfl,-,hr⟩:=hsrc
 by_cases hm:m=[]
 ·subst hm
  obtain⟨i,hi,-⟩:=qch
  have hS:Src Tryz.prog i.size 22 (.slice a 0 c) 0 [] w:=by
   cases a with
   |none=>exact Src.ofNil w Tryz.underlying22 c
   |some a=>exact Src.ofSlice w Tryz.underlying22 a 0 c [] (by simp) (fun j u hu=>by simp at hu) (fun u hu=>by cases hu)
  have hl:∃ ao n cap,v= .slice ao n cap∧n≤cap:=by
   rcases h with ⟨rfl,-⟩|⟨g,cap,cur,rfl,-,-,h3,-⟩
   ·exact⟨_,_,_,rfl,Nat.le_refl _⟩
   ·exact⟨_,_,_,rfl,h3⟩
  obtain⟨ao,n,cap,rfl,hle⟩:=hl
  refine⟨_,w,run_append_nothing (P:=Tryz.prog) w 22 22 22 26 i Tryz.underlying22 hi ao n cap hle _ hS,by rw[List.append_nil];exact h,q44 (G.refl w)⟩
 ·have hpos:0<m.length:=List.length_pos_iff.2 hm
  obtain⟨b,o,rfl,-,-⟩:=hr 0 hpos
  refine q8o w base v l m h hb ⟨b,o,none⟩ m.length c rfl (fun j hj=> ?_) hlen hpos
  obtain⟨b2,o2,e2,-,h2⟩:=hr j hj
  injection e2 with e2
  injection e2 with e4 e5
  subst e4;subst e5
  rw[addr_add]
  exact h2
end Go.Proofs.YtljkfjjchkehaaaGreatDoor.EN
namespace Go.Proofs.YtljkfjjchkehaaaGreatDoor.EN
open Go.ChangeShapes Go.WideShapes Go.ChangeAt Go.RowKit
theorem q9o (w:World) (bx b2:Nat) (x y:Rat) (qx:QB x 80) (qy:QB y 80) (hbx:bx<w.heap.size) (hby:b2<w.heap.size) (hx:RIs w bx x) (hy:RIs w b2 y):
  Calls Tryz.prog 47 #[.pointer (some ⟨bx,0,none⟩),.pointer (some ⟨b2,0,none⟩)] w (q5T w (x-y)):=by
 have HS:Hid (∀ w1 p,G w w1→p<w1.heap.size→RatIs w1 p 0 0→_):=fun w1 p g hp hr=>q89 w1 p bx b2 0 0 x y 80 (by omega) qx qy hp (G.lt g hbx) (G.lt g hby) hr (hx.G hbx g) (hy.G hby g)
 generalize x-y=q at *
 clear qx qy hx hy
 go_enter Tryz.func47,Tryz.ntmps47
 go_wp2_with fail
 have hr0:=q0s w 40
 have hga:=(G.refl w).alloc (.cells #[.bool false,.slice none 0 0,.bool false,.slice none 0 0] 40)
 have hzs:w.heap.size<(w.alloc (.cells #[.bool false,.slice none 0 0,.bool false,.slice none 0 0] 40)).heap.size:=by simp
 have hz0:w.heap.size≤w.heap.size:=Nat.le_refl _
 generalize w.alloc (.cells #[.bool false,.slice none 0 0,.bool false,.slice none 0 0] 40)=w3 at *
 refine Calls.mono (P:=Tryz.prog) (HS.out w3 _ hga hzs hr0) ?_
 intro e w4 hs
 obtain⟨p,rfl,k1,k2,k3,k4⟩:=SetRat.ret hga hz0 hzs hs
 have CV:Hid (RIs w4 p q):=k4
 clear hs k4 HS
 go_wp2_with fail
 go_ret
 exact⟨p,rfl,k1,k2,k3,CV.out⟩
theorem qae {a k:Nat} (h:a<2^k):Go.Proofs.YtljkfjjchkehaaaGreatDoor.blen a≤k:=blen_le_iff.2 h
theorem q50 (w:World) (p:Nat) (q:Rat) (h0:q≠0) (hq:QB q 80) (hp:p<w.heap.size) (h:RIs w p q):
  Calls Tryz.prog 45 #[.pointer (some ⟨p,0,none⟩)] w (qbM w (nR q)):=by
 have hn:q.num≠0:=fun h=>h0 (Rat.num_eq_zero.1 h)
 obtain⟨K,hK⟩:∃ K:Nat,K=80:=⟨_,rfl⟩
 rw[← hK] at hq
 have k:=q8g w p (2*K) q.num q.den (by omega) (by omega) hn q.den_pos (qb32 hq).1 (qb32 hq).2 (by
  have h1:=qae (qb32 hq).1
  unfold q1k
  split<;>omega) hp h
 rw[qcn (decide (q.num<0)) (by omega) q.den_nz] at k
 exact k
theorem eq_zero (b:Nat):(FloatKind.f64.format.order b 0==some .eq)=decide (FT.rung b=0):=by
 rw[FT.ord_f]
 have n0:FT.nan 0=false:=by decide
 have k0:FT.key 0=0:=by decide
 rw[n0,k0,Bool.or_false]
 by_cases hn:FT.nan b=true
 ·rw[hn]
  have:FT.rung b≠0:=by unfold FT.nan at hn;have:=of_decide_eq_true hn;omega
  rw[decide_eq_false this];rfl
 ·have hn':FT.nan b=false:=by simpa using hn
  rw[hn']
  have hk:FT.key b=0↔FT.rung b=0:=by unfold FT.key;split<;>omega
  simp only[Bool.false_eq_true,if_false]
  by_cases h:FT.rung b=0
  ·rw[decide_eq_true h,hk.2 h];rfl
  ·rw[decide_eq_false h]
   have hne:FT.key b≠0:=fun e=>h (hk.1 e)
   rcases Int.lt_trichotomy (FT.key b) 0 with h2|h2|h2
   ·rw[Int.compare_eq_lt.2 h2];rfl
   ·exact absurd h2 hne
   ·rw[Int.compare_eq_gt.2 h2];rfl
theorem qco {r:Nat}:FT.v r=0↔r=0:=by
 refine⟨fun h=> ?_,fun h=>by rw[h];rfl⟩
 by_cases hr:r<2^52
 ·rwa[FT.v_sub hr] at h
 ·have h1:=qb1 (V:=r) (by omega)
  have h2:=q9Q r
  have:=Nat.mul_pos (show 0<2^52 from by omega) h2
  omega
theorem q35 {q:Rat} (h0:q≠0):nR q<2^64∧FT.rung (nR q)≤2047*2^52∧(fex (nR q)<2047→(FQ (nR q)=0↔FT.rung (nR q)=0))∧(fex (nR q)=2047↔FT.rung (nR q)=FT.infR):=by
 have hle:=q95 h0
 have e:FT.rung (nR q)=rV q:=FT.wrd_rung _ _ (by omega)
 have h64:nR q<2^64:=by unfold nR FT.wrd;split<;>omega
 have hf:=q3W (nR q)
 refine⟨h64,by omega,fun hfx=> ?_,?_⟩
 ·rw[q51 h64 hfx,uz_eq_zero]
  have hv:FT.v (FT.rung (nR q))=0↔FT.rung (nR q)=0:=qco
  unfold fz
  split<;>omega
 ·have hi:FT.infR=2047*2^52:=rfl
  have hx:fex (nR q)≤2047:=by have:fex (nR q)<2^11:=Nat.mod_lt _ (by omega);omega
  omega
/-- A call hands back a list of floats, and a word. -/
def q3h (w:World) (L:List Nat) (o:Bool) (e:Ending) (w':World):Prop:=∃ v,e= .returned (.tuple #[v,.bool o])∧G w w'∧FOwn w' w.heap.size v L
theorem q3e (w:World) (p k:Nat) (sb:Int) (h:RatIs w p 0 sb):Calls Tryz.prog 11 #[.pointer (some ⟨p,0,none⟩),.int .i64 k] w (q3h w [] true):=by
 have HS:Hid _:=q2a w p 0 sb h
 clear h
 go_enter Tryz.func11,Tryz.ntmps11
 go_wp2_with fail
 refine Calls.mono (P:=Tryz.prog) HS.out ?_
 rintro e1 w1 ⟨rfl,g1⟩
 go_wp2_with fail
 refine bodyPost_ret (v:= .tuple #[.slice none 0 0,.bool true]) (by simp [results,Tryz.results11,go_sem, *]) rfl ?_
 exact⟨_,rfl,g1,q1N _ _⟩
theorem q5l (w:World) (p:Nat) (sa sb:Int) (h:RatIs w p sa sb):Calls Tryz.prog 11 #[.pointer (some ⟨p,0,none⟩),.int .i64 0] w (q3h w [] true):=by
 have HS:Hid _:=q2a w p sa sb h
 generalize sa.sign=s at *
 clear h
 by_cases hs:s=0
 ·subst hs
  go_enter Tryz.func11,Tryz.ntmps11
  go_wp2_with fail
  refine Calls.mono (P:=Tryz.prog) HS.out ?_
  rintro e1 w1 ⟨rfl,g1⟩
  go_wp2_with fail
  refine bodyPost_ret (v:= .tuple #[.slice none 0 0,.bool true]) (by simp [results,Tryz.results11,go_sem, *]) rfl ?_
  exact⟨_,rfl,g1,q1N _ _⟩
 ·have hs':(s==0)=false:=by simpa using hs
  go_enter Tryz.func11,Tryz.ntmps11
  go_wp2_with fail
  refine Calls.mono (P:=Tryz.prog) HS.out ?_
  rintro e1 w1 ⟨rfl,g1⟩
  go_wp2_with fail
  refine bodyPost_ret (v:= .tuple #[.slice none 0 0,.bool true]) (by simp [results,Tryz.results11,go_sem, *]) rfl ?_
  exact⟨_,rfl,g1,q1N _ _⟩
/-- A number that has no float of its own. -/
theorem q6K (w:World) (p k:Nat) (x:Rat) (h0:x≠0) (hq:QB x 80) (hb:fex (nR x)=2047∨FQ (nR x)=0) (hp:p<w.heap.size) (h:RIs w p x):
  Calls Tryz.prog 11 #[.pointer (some ⟨p,0,none⟩),.int .i64 (k+1:Nat)] w (q3h w [] false):=by
 have hn:x.num≠0:=fun h=>h0 (Rat.num_eq_zero.1 h)
 have hs:(x.num.sign==0)=false:=by
  have:x.num.sign≠0:=fun e=>hn (Int.sign_eq_zero_iff_zero.1 e)
  simpa using this
 have hk:(((k+1:Nat):Int)==0)=false:=by
  have:((k+1:Nat):Int)≠0:=by omega
  simpa using this
 have HS:Hid _:=q2a w p x.num x.den h
 have HF:Hid (∀ w1,G w w1→_):=fun w1 g=>q50 w1 p x h0 hq (G.lt g hp) (h.G hp g)
 obtain⟨k1,k2,k3,k4⟩:=q35 h0
 have HI:Hid (∀ w1,_):=fun w1=>q2f (nR x) w1 k1
 have hz:=eq_zero (nR x)
 have hor:FT.rung (nR x)=0∨(FT.rung (nR x)≠0∧FT.rung (nR x)=FT.infR):=by
  rcases hb with hb|hb
  ·have:=k4.1 hb
   have hi:FT.infR=2047*2^52:=rfl
   exact Or.inr ⟨by omega,this⟩
  ·by_cases hf:fex (nR x)<2047
   ·exact Or.inl ((k3 hf).1 hb)
   ·have hx:fex (nR x)<2^11:=Nat.mod_lt _ (by omega)
    have:=k4.1 (by omega)
    have hi:FT.infR=2047*2^52:=rfl
    exact Or.inr ⟨by omega,this⟩
 generalize x.num.sign=s at *
 generalize ((k+1:Nat):Int)=m at *
 clear h h0 hq hb k1 k2 k3 k4 hn
 generalize nR x=b at *
 rcases hor with h|⟨h,h2⟩
 ·rw[decide_eq_true h] at hz
  clear h HI
  go_enter Tryz.func11,Tryz.ntmps11
  go_wp2_with fail
  refine Calls.mono (P:=Tryz.prog) HS.out ?_
  rintro e1 w1 ⟨rfl,g1⟩
  go_wp2_with fail
  refine Calls.mono (P:=Tryz.prog) (HF.out w1 g1) ?_
  rintro e2 w2 ⟨xx,rfl,g2⟩
  go_wp2_with fail
  refine bodyPost_ret (v:= .tuple #[.slice none 0 0,.bool false]) (by simp [results,Tryz.results11,go_sem, *]) rfl ?_
  exact⟨_,rfl,G.trans g1 g2,q1N _ _⟩
 ·rw[decide_eq_false h] at hz
  rw[decide_eq_true h2] at HI
  clear h h2
  go_enter Tryz.func11,Tryz.ntmps11
  go_wp2_with fail
  refine Calls.mono (P:=Tryz.prog) HS.out ?_
  rintro e1 w1 ⟨rfl,g1⟩
  go_wp2_with fail
  refine Calls.mono (P:=Tryz.prog) (HF.out w1 g1) ?_
  rintro e2 w2 ⟨xx,rfl,g2⟩
  go_wp2_with fail
  refine Calls.mono (P:=Tryz.prog) (HI.out w2) ?_
  rintro e3 w3 ⟨rfl,g3⟩
  go_wp2_with fail
  refine bodyPost_ret (v:= .tuple #[.slice none 0 0,.bool false]) (by simp [results,Tryz.results11,go_sem, *]) rfl ?_
  exact⟨_,rfl,G.trans g1 (G.trans g2 g3),q1N _ _⟩
/-- A number's first float, and what is told of the rest. -/
theorem q5k (w:World) (p k:Nat) (x:Rat) (L:List Nat) (o:Bool) (h0:x≠0) (hq:QB x 80) (h1:fex (nR x)<2047) (h2:FQ (nR x)≠0) (hk:k≤1048576) (hL:L.length≤1000) (hqz:QB (FQ (nR x)) 80)
  (hrec:∀ w1 p1,p1<w1.heap.size→RIs w1 p1 (x-FQ (nR x))→Calls Tryz.prog 11 #[.pointer (some ⟨p1,0,none⟩),.int .i64 k] w1 (q3h w1 L o))
  (hp:p<w.heap.size) (h:RIs w p x):
  Calls Tryz.prog 11 #[.pointer (some ⟨p,0,none⟩),.int .i64 (k+1:Nat)] w (q3h w (nR x::L) o):=by
 have hn:x.num≠0:=fun h=>h0 (Rat.num_eq_zero.1 h)
 have hs:(x.num.sign==0)=false:=by
  have:x.num.sign≠0:=fun e=>hn (Int.sign_eq_zero_iff_zero.1 e)
  simpa using this
 have hk1:(((k+1:Nat):Int)==0)=false:=by
  have:((k+1:Nat):Int)≠0:=by omega
  simpa using this
 have HS:Hid _:=q2a w p x.num x.den h
 have HF:Hid (∀ w1,G w w1→_):=fun w1 g=>q50 w1 p x h0 hq (G.lt g hp) (h.G hp g)
 obtain⟨k1,k2,k3,k4⟩:=q35 h0
 have HI:Hid (∀ w1,_):=fun w1=>q2f (nR x) w1 k1
 have hz:=eq_zero (nR x)
 have hr0:FT.rung (nR x)≠0:=fun e=>h2 ((k3 h1).2 e)
 have zJ:FT.rung (nR x)≠FT.infR:=fun e=>by have:=k4.2 e;omega
 rw[decide_eq_false hr0] at hz
 rw[decide_eq_false zJ] at HI
 have HX:Hid (∀ w1,_):=fun w1=>q1Y w1 (nR x) k1 h1
 rw[← q51 k1 h1] at HX
 have HSub:Hid (∀ w1 p2,G w w1→p2<w1.heap.size→RIs w1 p2 (FQ (nR x))→_):=fun w1 p2 g hp2 hr=>q9o w1 p p2 x (FQ (nR x)) hq hqz (G.lt g hp) hp2 (h.G hp g) hr
 have HR:Hid _:=hrec
 have hw:wrap64 (((k+1:Nat):Int)-1)=(k:Int):=by
  rw[show ((k+1:Nat):Int)-1=(k:Int) from by omega]
  exact IntWalk.wrap64_in _ (by omega)
 generalize x.num.sign=s at *
 obtain⟨m,hm⟩:∃ m,m=((k+1:Nat):Int):=⟨_,rfl⟩
 rw[← hm] at hk1 hw ⊢
 clear h h0 hq h1 h2 k1 k2 k3 k4 hn hr0 zJ hrec hqz hm
 generalize FQ (nR x)=xq at *
 generalize nR x=b at *
 go_enter Tryz.func11,Tryz.ntmps11
 go_wp2_with fail
 refine Calls.mono (P:=Tryz.prog) HS.out ?_
 rintro e1 w1 ⟨rfl,g1⟩
 go_wp2_with fail
 refine Calls.mono (P:=Tryz.prog) (HF.out w1 g1) ?_
 rintro e2 w2 ⟨xx,rfl,g2⟩
 go_wp2_with fail
 refine Calls.mono (P:=Tryz.prog) (HI.out w2) ?_
 rintro e3 w3 ⟨rfl,g3⟩
 go_wp2_with fail
 refine Calls.mono (P:=Tryz.prog) (HX.out w3) ?_
 rintro e4 w4 ⟨p2,rfl,g4,-,hp2,hr2⟩
 have g14:=G.trans g1 (G.trans g2 (G.trans g3 g4))
 have HC:Hid _:=HSub.out w4 p2 g14 hp2 hr2
 clear hr2 HX HSub HI HF HS g1 g2 g3 g4
 go_wp2_with fail
 refine Calls.mono (P:=Tryz.prog) HC.out ?_
 rintro e5 w5 ⟨p3,rfl,g5,-,hp3,hr3⟩
 have jf:Hid _:=HR.out w5 p3 hp3 hr3
 clear hr3 HC HR
 go_wp2_with fail
 refine Calls.mono (P:=Tryz.prog) jf.out ?_
 rintro e6 w6 ⟨v6,rfl,g6,hv6⟩
 have MV:Hid (FSl w6 v6 L):=hv6.fsl
 have uN:=G.trans g14 (G.trans g5 g6)
 clear hv6 jf g14 g5 g6
 have hown:FOwn (w6.alloc (.cells #[.float .f64 b] 26)) w.heap.size (.slice (some ⟨w6.heap.size,0,none⟩) 1 1) [b]:=
  Or.inr ⟨w6.heap.size,1,#[.float .f64 b],rfl,uN.size,heap_alloc_new w6 _,Nat.le_refl _,by show (1:Nat)≤9223372036854775807;omega,rfl,rfl,fun u hu=>by
   obtain rfl:u= .float .f64 b:=by simpa using hu
   trivial⟩
 have g7:G w (w6.alloc (.cells #[.float .f64 b] 26)):=uN.alloc _
 obtain⟨v8,w8,hrun,pM,honto⟩:=q7G _ w.heap.size _ v6 [b] L hown g7.size (FSl.G MV.out ((G.refl w6).alloc _)) (by simp;omega)
 have g8:G w w8:=honto.g w (Nat.le_refl _) g7
 have Pf:Hid (FOwn w8 w.heap.size v8 (b::L)):=pM
 obtain⟨a6,c6,rfl,-,-⟩:=MV.out
 clear hown honto pM uN g7
 go_wp2_with (at_builtin;refine q20 _ rfl (.tmp 39) (.tmp 40) 22 rfl _ _ rfl rfl hrun ?_)
 clear hrun
 refine bodyPost_ret (v:= .tuple #[v8,.bool o]) (by simp [results,Tryz.results11,go_sem, *]) rfl ?_
 exact⟨v8,rfl,g8,Pf.out⟩
/-- The reference's list of a number. -/
theorem q8H {k:Nat} {x:Rat} {L:List Nat} {o:Bool} (h:Fr k x L o):∀ (w:World) (p:Nat),k≤1048576→L.length≤1000→p<w.heap.size→RIs w p x→(∀ b,fex b<2047→QB (FQ b) 80)→
  Calls Tryz.prog 11 #[.pointer (some ⟨p,0,none⟩),.int .i64 k] w (q3h w L o):=by
 induction h with
 |zero k=>exact fun w p _ _ _ hr _=>q3e w p k _ hr
 |most v=>exact fun w p _ _ _ hr _=>q5l w p _ _ hr
 |bad k v h0 hq hb=>exact fun w p _ _ hp hr _=>q6K w p k v h0 hq hb hp hr
 |step k v l o h0 hq h1 h2 h ih=>exact fun w p hk hl hp hr hz=>q5k w p k v l o h0 hq h1 h2 (by omega) (by simp at hl;omega) (hz _ h1) (fun w1 p1 hp1 hr1=>ih w1 p1 (by omega) (by simp at hl;omega) hp1 hr1 hz) hp hr
/-- A list that was lent: its own block, three marks behind it. -/
def Lent (w:World) (base:Nat) (v:Value) (l:List Nat) (m:Nat):Prop:=∃ g cap,v= .slice (some ⟨g,0,none⟩) l.length cap∧FOwn w base (.slice (some ⟨g,0,none⟩) (l.length+3) cap) (l++[m,m,m])
theorem Lent.G {w w':World} {base m:Nat} {v:Value} {l:List Nat} (h:Lent w base v l m) (g:G w w'):Lent w' base v l m:=by
 obtain⟨b,cap,e,h⟩:=h
 exact⟨b,cap,e,FOwn.G h g⟩
theorem q37 {b:Nat} (h:fex b<2047):(FloatKind.f64.format.order b b==some .eq)=true:=by
 rw[FT.ord_f]
 have hn:FT.nan b=false:=by
  have:=(q3W b).1 h
  have hi:FT.infR=2047*2^52:=rfl
  unfold FT.nan
  exact decide_eq_false (by omega)
 rw[hn,Int.compare_eq_eq.2 rfl]
 rfl
end Go.Proofs.YtljkfjjchkehaaaGreatDoor.EN
namespace Go.Proofs.YtljkfjjchkehaaaGreatDoor.EN
open Go.RowKit
theorem q6a {k:Nat} {x:Rat} {L:List Nat} {o:Bool} (h:Fr k x L o):∀ k',k'≤k→∃ L' o',Fr k' x L' o':=by
 induction h with
 |zero k=>exact fun k' _=>⟨[],true,Fr.zero k'⟩
 |most v=>
  intro k' hk
  obtain rfl:k'=0:=by omega
  exact⟨[],true,Fr.most v⟩
 |bad k v h0 hq hb=>
  intro k' hk
  rcases k' with _|j
  ·exact⟨[],true,Fr.most v⟩
  ·exact⟨[],false,Fr.bad j v h0 hq hb⟩
 |step k v l o h0 hq h1 h2 h ih=>
  intro k' hk
  rcases k' with _|j
  ·exact⟨[],true,Fr.most v⟩
  ·obtain⟨L,o',hF⟩:=ih j (by omega)
   exact⟨_,o',Fr.step j v L o' h0 hq h1 h2 hF⟩
theorem qbh {x:Rat} (hq:QB x 80):∃ L o,Fr 1 x L o:=by
 by_cases h0:x=0
 ·subst h0;exact⟨[],true,Fr.zero 1⟩
 ·by_cases hb:fex (nR x)=2047∨FQ (nR x)=0
  ·exact⟨[],false,Fr.bad 0 x h0 hq hb⟩
  ·obtain⟨k1,k2,k3,k4⟩:=q35 h0
   have hlt:fex (nR x)<2047:=by
    have:fex (nR x)≤2047:=by
     unfold fex
     have:=Nat.mod_lt (nR x/2^52) (show 0<2048 by omega)
     omega
    have:fex (nR x)≠2047:=fun e=>hb (Or.inl e)
    omega
   exact⟨_,true,Fr.step 0 x [] true h0 hq hlt (fun e=>hb (Or.inr e)) (Fr.most _)⟩
/-- Two are taken off a fraction that isn't great, and has no great lower part. -/
theorem qc0 {x:Rat} (hq:QB x 80) (hq2:∀ b,b<2^64→fex b<2047→QB (x-FQ b) 80):∃ L o,Fr 2 x L o:=by
 by_cases h0:x=0
 ·subst h0;exact⟨[],true,Fr.zero 2⟩
 ·obtain⟨k1,k2,k3,k4⟩:=q35 h0
  by_cases hb:fex (nR x)=2047∨FQ (nR x)=0
  ·exact⟨[],false,Fr.bad 1 x h0 hq hb⟩
  ·have hlt:fex (nR x)<2047:=by
    have:fex (nR x)≤2047:=by
     unfold fex
     have:=Nat.mod_lt (nR x/2^52) (show 0<2048 by omega)
     omega
    have:fex (nR x)≠2047:=fun e=>hb (Or.inl e)
    omega
   obtain⟨L,o,hF⟩:=qbh (hq2 _ k1 hlt)
   exact⟨_,o,Fr.step 1 x L o h0 hq hlt (fun e=>hb (Or.inr e)) hF⟩
theorem qaZ (D:Nat) (hD:0<D) (zx zy:Int) (hy:zy≠0):∃ s:Int,s.natAbs=zx.natAbs∧mkRat zx D/mkRat zy D=mkRat s zy.natAbs:=by
 have h1:mkRat zx D/mkRat zy D=Rat.divInt (zx*D) (D*zy):=by
  rw[Rat.div_def,← Rat.divInt_ofNat,← Rat.divInt_ofNat,Rat.inv_divInt,Rat.divInt_mul_divInt]
 have hD':(D:Int)≠0:=by omega
 rw[h1]
 rcases Int.lt_or_gt_of_ne hy with h|h
 ·refine⟨-zx,Int.natAbs_neg _,?_⟩
  rw[← Rat.divInt_ofNat,Rat.divInt_eq_divInt_iff (Int.mul_ne_zero hD' hy) (by omega),show ((zy.natAbs:Nat):Int)= -zy from by omega,Int.neg_mul,Int.mul_neg,Int.mul_assoc]
 ·refine⟨zx,rfl,?_⟩
  rw[← Rat.divInt_ofNat,Rat.divInt_eq_divInt_iff (Int.mul_ne_zero hD' hy) (by omega),show ((zy.natAbs:Nat):Int)=zy from by omega,Int.mul_assoc]
theorem qac (D n:Nat) (hD:0<D) (hn:0<n) (s f:Int):mkRat s n-mkRat f D=mkRat (s*D-f*n) (n*D):=by
 rw[← Rat.divInt_ofNat,← Rat.divInt_ofNat,Rat.divInt_sub_divInt _ _ (by omega) (by omega),← Rat.divInt_ofNat]
 push_cast
 rfl
theorem qbO (zx zy:Int) (hy:zy≠0) {N:Nat} (hN:N≤2200) (h1:zx.natAbs<2^N) (h2:zy.natAbs<2^N):QB (Uz zx/Uz zy) 80∧∀ b,b<2^64→fex b<2047→QB (Uz zx/Uz zy-FQ b) 80:=by
 obtain⟨s,hs,he⟩:=qaZ (2^1074) q0w zx zy hy
 rw[← hs] at h1
 have he':Uz zx/Uz zy=mkRat s zy.natAbs:=he
 have hn0:0<zy.natAbs:=by omega
 generalize zy.natAbs=n at *
 rw[he']
 clear he he' hs hy
 obtain⟨M,hM⟩:∃ M:Nat,M=80:=⟨_,rfl⟩
 rw[← hM]
 have hk:∀ k:Nat,k≤5120→2^k≤2^(64*M):=fun k h=>Nat.pow_le_pow_right (by omega) (by omega)
 refine⟨q7R hn0 rfl (Nat.lt_of_lt_of_le h1 (hk _ (by omega))) (Nat.lt_of_lt_of_le h2 (hk _ (by omega))),fun b hb hf=> ?_⟩
 rw[q51 hb hf]
 have hf2:=q6E b
 generalize fz b=f at *
 unfold Uz
 obtain⟨E,hE⟩:∃ E:Nat,E=1074:=⟨_,rfl⟩
 obtain⟨F,hF⟩:∃ F:Nat,F=2099:=⟨_,rfl⟩
 rw[← hE]
 rw[← hF] at hf2
 have hD:0<2^E:=Nat.two_pow_pos _
 rw[qac (2^E) n hD hn0]
 refine q7R (Nat.mul_pos hn0 hD) rfl ?_ ?_
 ·have k1:(s*((2^E:Nat):Int)-f*(n:Int)).natAbs≤s.natAbs*2^E+f.natAbs*n:=by
   refine Nat.le_trans (Int.natAbs_sub_le _ _) ?_
   rw[Int.natAbs_mul,Int.natAbs_mul,Int.natAbs_natCast,Int.natAbs_natCast]
   exact Nat.le_refl _
  have k2:s.natAbs*2^E≤2^N*2^F:=Nat.mul_le_mul (Nat.le_of_lt h1) (Nat.pow_le_pow_right (by omega) (by omega))
  have k3:f.natAbs*n≤2^F*2^N:=Nat.mul_le_mul (Nat.le_of_lt hf2) (Nat.le_of_lt h2)
  rw[← Nat.pow_add] at k2 k3
  rw[Nat.add_comm F N] at k3
  have k4:2^(N+F)+2^(N+F)<2^(64*M):=by
   have:=hk (N+F+2) (by omega)
   have h3:=Nat.two_pow_pos (N+F)
   rw[Nat.pow_add (n:=2),show 2^2=4 from rfl] at this
   omega
  omega
 ·have k2:n*2^E≤2^N*2^E:=Nat.mul_le_mul (Nat.le_of_lt h2) (Nat.le_refl _)
  have k3:n*2^E<2^N*2^E:=Nat.mul_lt_mul_of_pos_right h2 hD
  rw[← Nat.pow_add] at k3
  exact Nat.lt_of_lt_of_le k3 (hk _ (by omega))
/-- A pair's number, in units. -/
theorem q1P (x y:Nat):Uz ([x,y].map fz).sum=Uz (fz x+fz y):=by simp
theorem q49 (x y:Nat):(fz x+fz y).natAbs<2^2100:=by
 have h1:=q6E x
 have h2:=q6E y
 obtain⟨F,hF⟩:∃ F:Nat,F=2099:=⟨_,rfl⟩
 rw[show 2100=F+1 from by omega,Nat.pow_succ]
 rw[← hF] at h1 h2
 have:=Int.natAbs_add_le (fz x) (fz y)
 omega
theorem qaS (x y:Nat):∃ L o,Fr 2 (Uz (fz x+fz y)) L o:=by
 obtain⟨L,o,h,-⟩:=qa1 (l:=[x,y]) (by simp)
 rw[q1P] at h
 exact q6a (h 100 (by omega)) 2 (by omega)
theorem q87 (a b c d:Nat):∃ L o,Fr 2 (Uz (fz a+fz b)+Uz (fz c+fz d)) L o:=by
 obtain⟨L,o,h,-⟩:=qa1 (l:=[a,b,c,d]) (by simp)
 have he:Uz (([a,b,c,d].map fz).sum)=Uz (fz a+fz b)+Uz (fz c+fz d):=by
  rw[q3N]
  congr 1
  simp only[List.map_cons,List.map_nil,List.sum_cons,List.sum_nil]
  omega
 rw[he] at h
 exact q6a (h 100 (by omega)) 2 (by omega)
theorem q7q (a b c d:Nat):∃ L o,Fr 2 (Uz (fz a+fz b)-Uz (fz c+fz d)) L o:=by
 rw[q9M]
 obtain⟨L,o,h,-⟩:=q43 41 (fz a+fz b-(fz c+fz d)) 41 (by
  have h1:=q49 a b
  have h2:=q49 c d
  obtain⟨F,hF⟩:∃ F:Nat,F=2100:=⟨_,rfl⟩
  obtain⟨J,hJ⟩:∃ J:Nat,J=41:=⟨_,rfl⟩
  rw[← hF] at h1 h2
  rw[← hJ]
  have h3:=Int.natAbs_sub_le (fz a+fz b) (fz c+fz d)
  have h4:2^(F+1)≤2^(52*J):=Nat.pow_le_pow_right (by omega) (by omega)
  rw[Nat.pow_succ] at h4
  omega) (by omega) (by omega)
 exact q6a h 2 (by omega)
theorem q7y (a b c d:Nat):∃ L o,Fr 2 (Uz (fz a+fz b)*Uz (fz c+fz d)) L o:=by
 obtain⟨L,o,h,-⟩:=qak (l:=[a,b]) (m:=[c,d]) (by simp) (by simp)
 rw[q1P,q1P] at h
 exact q6a (h 100 (by omega)) 2 (by omega)
theorem qaG (a b c d:Nat) (h0:fz c+fz d≠0):∃ L o,Fr 2 (Uz (fz a+fz b)/Uz (fz c+fz d)) L o:=by
 have h1:=q49 a b
 have h2:=q49 c d
 obtain⟨F,hF⟩:∃ F:Nat,F=2100:=⟨_,rfl⟩
 rw[← hF] at h1 h2
 obtain⟨k1,k2⟩:=qbO _ _ h0 (by omega) h1 h2
 exact qc0 k1 k2
theorem q0C (x y:Nat):QB (Uz (fz x+fz y)) 80:=by
 have h:=q7r (l:=[x,y]) (by simp) 2
 rw[show ((List.map fz [x,y]).take 2)=[x,y].map fz from rfl,q1P] at h
 exact h
end Go.Proofs.YtljkfjjchkehaaaGreatDoor.EN
