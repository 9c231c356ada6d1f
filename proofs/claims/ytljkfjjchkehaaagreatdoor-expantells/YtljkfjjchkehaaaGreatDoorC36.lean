/- What is proved here: contracts of the reference: sub, Float64 by core's fractions, ListOf, over this seat's translation.
What is proved here: contracts of the law's helpers: Lend, over this seat's translation.
What is proved here: contracts of the law's helpers: Lists of floats that are the same, over this seat's translation.
What is proved here: contracts of the law's helpers: Still, over this seat's translation. -/
import Derived.Test.YtljkfjjchkehaaaGreatDoorC35
import Derived.Test.YtljkfjjchkehaaaGreatDoorC31
import Derived.Test.YtljkfjjchkehaaaGreatDoorC33
import Derived.Test.YtljkfjjchkehaaaGreatDoorC30
import Derived.Test.YtljkfjjchkehaaaGreatDoorC2
import Derived.Test.YtljkfjjchkehaaaGreatDoorC32
namespace Go.Proofs.YtljkfjjchkehaaaGreatDoor.EN
open Go.ChangeShapes Go.WideShapes Go.ChangeAt Go.RowKit
theorem q8F (w:World) (bx b2:Nat) (x y:Rat) (qx:QB x 80) (qy:QB y 80) (hbx:bx<w.heap.size) (hby:b2<w.heap.size) (hx:RIs w bx x) (hy:RIs w b2 y):
  Calls Tryz.prog 47 #[.pointer (some ⟨bx,0,none⟩),.pointer (some ⟨b2,0,none⟩)] w (q7R w (x-y)):=by
 have HS:Hid (∀ w1 p,G w w1→p<w1.heap.size→RatIs w1 p 0 0→_):=fun w1 p g hp hr=>qbr w1 p bx b2 0 0 x y 80 (by omega) qx qy hp (G.lt g hbx) (G.lt g hby) hr (hx.G hbx g) (hy.G hby g)
 generalize x-y=q at *
 clear qx qy hx hy
 go_enter Tryz.func47,Tryz.ntmps47
 go_wp2_with fail
 have hr0:=q45 w 40
 have hga:=(G.refl w).alloc (.cells #[.bool false,.slice none 0 0,.bool false,.slice none 0 0] 40)
 have hzs:w.heap.size<(w.alloc (.cells #[.bool false,.slice none 0 0,.bool false,.slice none 0 0] 40)).heap.size:=by simp
 have hz0:w.heap.size≤w.heap.size:=Nat.le_refl _
 generalize w.alloc (.cells #[.bool false,.slice none 0 0,.bool false,.slice none 0 0] 40)=w3 at *
 refine Calls.mono (P:=Tryz.prog) (HS.out w3 _ hga hzs hr0) ?_
 intro e w4 hs
 obtain⟨p,rfl,k1,k2,k3,k4⟩:=SetRat.ret hga hz0 hzs hs
 have N7:Hid (RIs w4 p q):=k4
 clear hs k4 HS
 go_wp2_with fail
 go_ret
 exact⟨p,rfl,k1,k2,k3,N7.out⟩
theorem qah {a k:Nat} (h:a<2^k):Go.Proofs.YtljkfjjchkehaaaGreatDoor.blen a≤k:=blen_le_iff.2 h
theorem q4E (w:World) (p:Nat) (q:Rat) (h0:q≠0) (hq:QB q 80) (hp:p<w.heap.size) (h:RIs w p q):
  Calls Tryz.prog 45 #[.pointer (some ⟨p,0,none⟩)] w (qbw w (nR q)):=by
 have hn:q.num≠0:=fun h=>h0 (Rat.num_eq_zero.1 h)
 obtain⟨K,hK⟩:∃ K:Nat,K=80:=⟨_,rfl⟩
 rw[← hK] at hq
 have k:=q8b w p (2*K) q.num q.den (by omega) (by omega) hn q.den_pos (qb32 hq).1 (qb32 hq).2 (by
  have h1:=qah (qb32 hq).1
  unfold q1k
  split<;>omega) hp h
 rw[qci (decide (q.num<0)) (by omega) q.den_nz] at k
 exact k
theorem eq_zero (b:Nat):(FloatKind.f64.format.order b 0==some .eq)=decide (FT.rung b=0):=by
 rw[FT.ord_f]
 have n0:FT.nan 0=false:=by decide
 have k0:FT.key 0=0:=by decide
 rw[n0,k0,Bool.or_false]
 by_cases hn:FT.nan b=true
 ·rw[hn]
  have:FT.rung b≠0:=by unfold FT.nan at hn;have:=of_decide_eq_true hn;omega
  rw[decide_eq_false this];rfl
 ·have hn':FT.nan b=false:=by simpa using hn
  rw[hn']
  have hk:FT.key b=0↔FT.rung b=0:=by unfold FT.key;split<;>omega
  simp only[Bool.false_eq_true,if_false]
  by_cases h:FT.rung b=0
  ·rw[decide_eq_true h,hk.2 h];rfl
  ·rw[decide_eq_false h]
   have hne:FT.key b≠0:=fun e=>h (hk.1 e)
   rcases Int.lt_trichotomy (FT.key b) 0 with h2|h2|h2
   ·rw[Int.compare_eq_lt.2 h2];rfl
   ·exact absurd h2 hne
   ·rw[Int.compare_eq_gt.2 h2];rfl
theorem qcg {r:Nat}:FT.v r=0↔r=0:=by
 refine⟨fun h=> ?_,fun h=>by rw[h];rfl⟩
 by_cases hr:r<2^52
 ·rwa[FT.v_sub hr] at h
 ·have h1:=qaE (V:=r) (by omega)
  have h2:=q9J r
  have:=Nat.mul_pos (show 0<2^52 from by omega) h2
  omega
theorem q6b {q:Rat} (h0:q≠0):nR q<2^64∧FT.rung (nR q)≤2047*2^52∧(fex (nR q)<2047→(FQ (nR q)=0↔FT.rung (nR q)=0))∧(fex (nR q)=2047↔FT.rung (nR q)=FT.infR):=by
 have hle:=q8o h0
 have e:FT.rung (nR q)=rV q:=FT.wrd_rung _ _ (by omega)
 have h64:nR q<2^64:=by unfold nR FT.wrd;split<;>omega
 have hf:=q42 (nR q)
 refine⟨h64,by omega,fun hfx=> ?_,?_⟩
 ·rw[q5D h64 hfx,uz_eq_zero]
  have hv:FT.v (FT.rung (nR q))=0↔FT.rung (nR q)=0:=qcg
  unfold fz
  split<;>omega
 ·have hi:FT.infR=2047*2^52:=rfl
  have hx:fex (nR q)≤2047:=by have:fex (nR q)<2^11:=Nat.mod_lt _ (by omega);omega
  omega
/-- A call hands back a list of floats, and a word. -/
def q3n (w:World) (L:List Nat) (o:Bool) (e:Ending) (w':World):Prop:=∃ v,e= .returned (.tuple #[v,.bool o])∧G w w'∧FOwn w' w.heap.size v L
theorem q3h (w:World) (p k:Nat) (sb:Int) (h:RatIs w p 0 sb):Calls Tryz.prog 11 #[.pointer (some ⟨p,0,none⟩),.int .i64 k] w (q3n w [] true):=by
 have HS:Hid _:=q38 w p 0 sb h
 clear h
 go_enter Tryz.func11,Tryz.ntmps11
 go_wp2_with fail
 refine Calls.mono (P:=Tryz.prog) HS.out ?_
 rintro e1 w1 ⟨rfl,g1⟩
 go_wp2_with fail
 refine bodyPost_ret (v:= .tuple #[.slice none 0 0,.bool true]) (by simp [results,Tryz.results11,go_sem, *]) rfl ?_
 exact⟨_,rfl,g1,q0T _ _⟩
theorem q58 (w:World) (p:Nat) (sa sb:Int) (h:RatIs w p sa sb):Calls Tryz.prog 11 #[.pointer (some ⟨p,0,none⟩),.int .i64 0] w (q3n w [] true):=by
 have HS:Hid _:=q38 w p sa sb h
 generalize sa.sign=s at *
 clear h
 by_cases hs:s=0
 ·subst hs
  go_enter Tryz.func11,Tryz.ntmps11
  go_wp2_with fail
  refine Calls.mono (P:=Tryz.prog) HS.out ?_
  rintro e1 w1 ⟨rfl,g1⟩
  go_wp2_with fail
  refine bodyPost_ret (v:= .tuple #[.slice none 0 0,.bool true]) (by simp [results,Tryz.results11,go_sem, *]) rfl ?_
  exact⟨_,rfl,g1,q0T _ _⟩
 ·have hs':(s==0)=false:=by simpa using hs
  go_enter Tryz.func11,Tryz.ntmps11
  go_wp2_with fail
  refine Calls.mono (P:=Tryz.prog) HS.out ?_
  rintro e1 w1 ⟨rfl,g1⟩
  go_wp2_with fail
  refine bodyPost_ret (v:= .tuple #[.slice none 0 0,.bool true]) (by simp [results,Tryz.results11,go_sem, *]) rfl ?_
  exact⟨_,rfl,g1,q0T _ _⟩
/-- A number that has no float of its own. -/
theorem q6M (w:World) (p k:Nat) (x:Rat) (h0:x≠0) (hq:QB x 80) (hb:fex (nR x)=2047∨FQ (nR x)=0) (hp:p<w.heap.size) (h:RIs w p x):
  Calls Tryz.prog 11 #[.pointer (some ⟨p,0,none⟩),.int .i64 (k+1:Nat)] w (q3n w [] false):=by
 have hn:x.num≠0:=fun h=>h0 (Rat.num_eq_zero.1 h)
 have hs:(x.num.sign==0)=false:=by
  have:x.num.sign≠0:=fun e=>hn (Int.sign_eq_zero_iff_zero.1 e)
  simpa using this
 have hk:(((k+1:Nat):Int)==0)=false:=by
  have:((k+1:Nat):Int)≠0:=by omega
  simpa using this
 have HS:Hid _:=q38 w p x.num x.den h
 have HF:Hid (∀ w1,G w w1→_):=fun w1 g=>q4E w1 p x h0 hq (G.lt g hp) (h.G hp g)
 obtain⟨k1,k2,k3,k4⟩:=q6b h0
 have HI:Hid (∀ w1,_):=fun w1=>q29 (nR x) w1 k1
 have hz:=eq_zero (nR x)
 have hor:FT.rung (nR x)=0∨(FT.rung (nR x)≠0∧FT.rung (nR x)=FT.infR):=by
  rcases hb with hb|hb
  ·have:=k4.1 hb
   have hi:FT.infR=2047*2^52:=rfl
   exact Or.inr ⟨by omega,this⟩
  ·by_cases hf:fex (nR x)<2047
   ·exact Or.inl ((k3 hf).1 hb)
   ·have hx:fex (nR x)<2^11:=Nat.mod_lt _ (by omega)
    have:=k4.1 (by omega)
    have hi:FT.infR=2047*2^52:=rfl
    exact Or.inr ⟨by omega,this⟩
 generalize x.num.sign=s at *
 generalize ((k+1:Nat):Int)=m at *
 clear h h0 hq hb k1 k2 k3 k4 hn
 generalize nR x=b at *
 rcases hor with h|⟨h,h2⟩
 ·rw[decide_eq_true h] at hz
  clear h HI
  go_enter Tryz.func11,Tryz.ntmps11
  go_wp2_with fail
  refine Calls.mono (P:=Tryz.prog) HS.out ?_
  rintro e1 w1 ⟨rfl,g1⟩
  go_wp2_with fail
  refine Calls.mono (P:=Tryz.prog) (HF.out w1 g1) ?_
  rintro e2 w2 ⟨xx,rfl,g2⟩
  go_wp2_with fail
  refine bodyPost_ret (v:= .tuple #[.slice none 0 0,.bool false]) (by simp [results,Tryz.results11,go_sem, *]) rfl ?_
  exact⟨_,rfl,G.trans g1 g2,q0T _ _⟩
 ·rw[decide_eq_false h] at hz
  rw[decide_eq_true h2] at HI
  clear h h2
  go_enter Tryz.func11,Tryz.ntmps11
  go_wp2_with fail
  refine Calls.mono (P:=Tryz.prog) HS.out ?_
  rintro e1 w1 ⟨rfl,g1⟩
  go_wp2_with fail
  refine Calls.mono (P:=Tryz.prog) (HF.out w1 g1) ?_
  rintro e2 w2 ⟨xx,rfl,g2⟩
  go_wp2_with fail
  refine Calls.mono (P:=Tryz.prog) (HI.out w2) ?_
  rintro e3 w3 ⟨rfl,g3⟩
  go_wp2_with fail
  refine bodyPost_ret (v:= .tuple #[.slice none 0 0,.bool false]) (by simp [results,Tryz.results11,go_sem, *]) rfl ?_
  exact⟨_,rfl,G.trans g1 (G.trans g2 g3),q0T _ _⟩
/-- A number's first float, and what is told of the rest. -/
theorem q5j (w:World) (p k:Nat) (x:Rat) (L:List Nat) (o:Bool) (h0:x≠0) (hq:QB x 80) (h1:fex (nR x)<2047) (h2:FQ (nR x)≠0) (hk:k≤1048576) (hL:L.length≤1000) (hqz:QB (FQ (nR x)) 80)
  (hrec:∀ w1 p1,p1<w1.heap.size→RIs w1 p1 (x-FQ (nR x))→Calls Tryz.prog 11 #[.pointer (some ⟨p1,0,none⟩),.int .i64 k] w1 (q3n w1 L o))
  (hp:p<w.heap.size) (h:RIs w p x):
  Calls Tryz.prog 11 #[.pointer (some ⟨p,0,none⟩),.int .i64 (k+1:Nat)] w (q3n w (nR x::L) o):=by
 have hn:x.num≠0:=fun h=>h0 (Rat.num_eq_zero.1 h)
 have hs:(x.num.sign==0)=false:=by
  have:x.num.sign≠0:=fun e=>hn (Int.sign_eq_zero_iff_zero.1 e)
  simpa using this
 have hk1:(((k+1:Nat):Int)==0)=false:=by
  have:((k+1:Nat):Int)≠0:=by omega
  simpa using this
 have HS:Hid _:=q38 w p x.num x.den h
 have HF:Hid (∀ w1,G w w1→_):=fun w1 g=>q4E w1 p x h0 hq (G.lt g hp) (h.G hp g)
 obtain⟨k1,k2,k3,k4⟩:=q6b h0
 have HI:Hid (∀ w1,_):=fun w1=>q29 (nR x) w1 k1
 have hz:=eq_zero (nR x)
 have hr0:FT.rung (nR x)≠0:=fun e=>h2 ((k3 h1).2 e)
 have Bf:FT.rung (nR x)≠FT.infR:=fun e=>by have:=k4.2 e;omega
 rw[decide_eq_false hr0] at hz
 rw[decide_eq_false Bf] at HI
 have HX:Hid (∀ w1,_):=fun w1=>q9L w1 (nR x) k1 h1
 rw[← q5D k1 h1] at HX
 have HSub:Hid (∀ w1 p2,G w w1→p2<w1.heap.size→RIs w1 p2 (FQ (nR x))→_):=fun w1 p2 g hp2 hr=>q8F w1 p p2 x (FQ (nR x)) hq hqz (G.lt g hp) hp2 (h.G hp g) hr
 have HR:Hid _:=hrec
 have hw:wrap64 (((k+1:Nat):Int)-1)=(k:Int):=by
  rw[show ((k+1:Nat):Int)-1=(k:Int) from by omega]
  exact IntWalk.wrap64_in _ (by omega)
 generalize x.num.sign=s at *
 obtain⟨m,hm⟩:∃ m,m=((k+1:Nat):Int):=⟨_,rfl⟩
 rw[← hm] at hk1 hw ⊢
 clear h h0 hq h1 h2 k1 k2 k3 k4 hn hr0 Bf hrec hqz hm
 generalize FQ (nR x)=xq at *
 generalize nR x=b at *
 go_enter Tryz.func11,Tryz.ntmps11
 go_wp2_with fail
 refine Calls.mono (P:=Tryz.prog) HS.out ?_
 rintro e1 w1 ⟨rfl,g1⟩
 go_wp2_with fail
 refine Calls.mono (P:=Tryz.prog) (HF.out w1 g1) ?_
 rintro e2 w2 ⟨xx,rfl,g2⟩
 go_wp2_with fail
 refine Calls.mono (P:=Tryz.prog) (HI.out w2) ?_
 rintro e3 w3 ⟨rfl,g3⟩
 go_wp2_with fail
 refine Calls.mono (P:=Tryz.prog) (HX.out w3) ?_
 rintro e4 w4 ⟨p2,rfl,g4,-,hp2,hr2⟩
 have g14:=G.trans g1 (G.trans g2 (G.trans g3 g4))
 have HC:Hid _:=HSub.out w4 p2 g14 hp2 hr2
 clear hr2 HX HSub HI HF HS g1 g2 g3 g4
 go_wp2_with fail
 refine Calls.mono (P:=Tryz.prog) HC.out ?_
 rintro e5 w5 ⟨p3,rfl,g5,-,hp3,hr3⟩
 have jk:Hid _:=HR.out w5 p3 hp3 hr3
 clear hr3 HC HR
 go_wp2_with fail
 refine Calls.mono (P:=Tryz.prog) jk.out ?_
 rintro e6 w6 ⟨v6,rfl,g6,hv6⟩
 have PT:Hid (FSl w6 v6 L):=hv6.fsl
 have Nj:=G.trans g14 (G.trans g5 g6)
 clear hv6 jk g14 g5 g6
 have hown:FOwn (w6.alloc (.cells #[.float .f64 b] 26)) w.heap.size (.slice (some ⟨w6.heap.size,0,none⟩) 1 1) [b]:=
  Or.inr ⟨w6.heap.size,1,#[.float .f64 b],rfl,Nj.size,heap_alloc_new w6 _,Nat.le_refl _,by show (1:Nat)≤9223372036854775807;omega,rfl,rfl,fun u hu=>by
   obtain rfl:u= .float .f64 b:=by simpa using hu
   trivial⟩
 have g7:G w (w6.alloc (.cells #[.float .f64 b] 26)):=Nj.alloc _
 obtain⟨v8,w8,hrun,zF,honto⟩:=q7Z _ w.heap.size _ v6 [b] L hown g7.size (FSl.G PT.out ((G.refl w6).alloc _)) (by simp;omega)
 have g8:G w w8:=honto.g w (Nat.le_refl _) g7
 have Ud:Hid (FOwn w8 w.heap.size v8 (b::L)):=zF
 obtain⟨a6,c6,rfl,-,-⟩:=PT.out
 clear hown honto zF Nj g7
 go_wp2_with (at_builtin;refine q20 _ rfl (.tmp 39) (.tmp 40) 22 rfl _ _ rfl rfl hrun ?_)
 clear hrun
 refine bodyPost_ret (v:= .tuple #[v8,.bool o]) (by simp [results,Tryz.results11,go_sem, *]) rfl ?_
 exact⟨v8,rfl,g8,Ud.out⟩
/-- The reference's list of a number. -/
theorem q99 {k:Nat} {x:Rat} {L:List Nat} {o:Bool} (h:Fr k x L o):∀ (w:World) (p:Nat),k≤1048576→L.length≤1000→p<w.heap.size→RIs w p x→(∀ b,fex b<2047→QB (FQ b) 80)→
  Calls Tryz.prog 11 #[.pointer (some ⟨p,0,none⟩),.int .i64 k] w (q3n w L o):=by
 induction h with
 |zero k=>exact fun w p _ _ _ hr _=>q3h w p k _ hr
 |most v=>exact fun w p _ _ _ hr _=>q58 w p _ _ hr
 |bad k v h0 hq hb=>exact fun w p _ _ hp hr _=>q6M w p k v h0 hq hb hp hr
 |step k v l o h0 hq h1 h2 h ih=>exact fun w p hk hl hp hr hz=>q5j w p k v l o h0 hq h1 h2 (by omega) (by simp at hl;omega) (hz _ h1) (fun w1 p1 hp1 hr1=>ih w1 p1 (by omega) (by simp at hl;omega) hp1 hr1 hz) hp hr
/-- A list that was lent: its own block, three marks behind it. -/
def Lent (w:World) (base:Nat) (v:Value) (l:List Nat) (m:Nat):Prop:=∃ g cap,v= .slice (some ⟨g,0,none⟩) l.length cap∧FOwn w base (.slice (some ⟨g,0,none⟩) (l.length+3) cap) (l++[m,m,m])
theorem Lent.G {w w':World} {base m:Nat} {v:Value} {l:List Nat} (h:Lent w base v l m) (g:G w w'):Lent w' base v l m:=by
 obtain⟨b,cap,e,h⟩:=h
 exact⟨b,cap,e,FOwn.G h g⟩
theorem q8j (n m:Nat) (hm:m≤n) (hn:n≤1048576) (w:World):(Instr.makeSlice 22 (.int .i64 (m:Int)) (.int .i64 (n:Int))).run Tryz.prog w= .ok (.slice (some ⟨w.heap.size,0,none⟩) m n) (w.alloc (.cells (madeCells #[.float .f64 0] n) 26)):=by
 obtain⟨i,hi,hz,hs,hb⟩:=q94
 have h:=run_make (P:=Tryz.prog) w 22 26 i _ Tryz.underlying22 hi hz .i64 .i64 (m:Int) (n:Int) (by omega) (by omega) (by rw[hb];omega) (by omega)
 rw[hs,Nat.mul_one] at h
 exact h
theorem q7E {n:Nat} {x:Value} (h:x∈(madeCells #[.float .f64 0] n).toList):x= .float .f64 0:=by
 unfold madeCells at h
 simp only[Array.toList_map,List.mem_map] at h
 obtain⟨k,-,rfl⟩:=h
 rw[show k%(#[Value.float .f64 0]:Array Value).size=0 from Nat.mod_one k]
 rfl
set_option maxRecDepth 10000 in
theorem q3D (w:World) (v:Value) (l:List Nat) (m:Nat) (h:FSl w v l) (hn:l.length<5000):
  Calls Tryz.prog 9 #[v,.float .f64 m] w fun e w'=>∃ u,e= .returned u∧G w w'∧Lent w' w.heap.size u l m:=by
 have HV:Hid (FSl w v l):=h
 obtain⟨pa,ca,rfl,-,-⟩:=h
 obtain⟨n,hn'⟩:∃ n,n=l.length:=⟨_,rfl⟩
 rw[← hn'] at hn HV ⊢
 have HN:Hid (n=l.length):=hn'
 clear hn'
 have hmk:(Instr.makeSlice 22 (.int .i64 0) (.int .i64 ((n:Int)+3))).run Tryz.prog w=_:=q8j (n+3) 0 (by omega) (by omega) w
 obtain⟨w1,hw1⟩:∃ w1,w1=w.alloc (.cells (madeCells #[.float .f64 0] (n+3)) 26):=⟨_,rfl⟩
 rw[← hw1] at hmk
 have g1:G w w1:=by rw[hw1];exact(G.refl w).alloc _
 have hown:FOwn w1 w.heap.size (.slice (some ⟨w.heap.size,0,none⟩) 0 (n+3)) []:=by
  rw[hw1]
  refine Or.inr ⟨w.heap.size,n+3,_,rfl,Nat.le_refl _,heap_alloc_new w _,Nat.zero_le _,by show n+3≤9223372036854775807;omega,by simp [size_madeCells],by simp [fl],fun x hx=> ?_⟩
  rw[q7E hx]
  trivial
 clear hw1
 obtain⟨v2,w2,zB,hown2,vW⟩:=q7Z w1 w.heap.size _ (.slice pa n ca) [] l hown g1.size (FSl.G HV.out g1) (by have:=HN.out;simp;omega)
 rw[List.nil_append] at hown2
 have g2:G w w2:=vW.g w (Nat.le_refl _) g1
 have g3:G w (w2.alloc (.cells #[.float .f64 m,.float .f64 m,.float .f64 m] 26)):=g2.alloc _
 obtain⟨v4,w4,vX,zC,vY⟩:=q5p (w2.alloc (.cells #[.float .f64 m,.float .f64 m,.float .f64 m] 26)) w.heap.size v2 l [m,m,m] (FOwn.G hown2 ((G.refl w2).alloc _)) g3.size ⟨w2.heap.size,0,none⟩ 3 3 rfl (fun j hj=>by
   have:j=0∨j=1∨j=2:=by simp at hj;omega
   rcases this with rfl|rfl|rfl<;>simp [Addr.add,go_sem]) (by have:=HN.out;simp;omega) (by simp)
 have g4:G w w4:=vY.g w (Nat.le_refl _) g3
 have hlen:(l++[m,m,m]).length=n+3:=by rw[List.length_append,← HN.out];rfl
 have rP:Hid (FOwn w4 w.heap.size v4 (l++[m,m,m])):=zC
 rcases zC with ⟨-,h⟩|⟨g,cap,cur,rfl,-,-,h3,-⟩
 ·rw[h] at hlen;simp at hlen
 rw[hlen] at h3 rP vX
 have hcap:n≤cap:=by omega
 clear hown hown2 vW vY g1 g2 g3 h3 hlen
 go_enter Tryz.func9,Tryz.ntmps9
 go_wp2_with (at_builtin;first|(refine q20 _ rfl (.tmp 9) (.tmp 10) 22 rfl _ _ rfl rfl zB ?_)|(refine q20 _ rfl (.tmp 11) (.tmp 15) 22 rfl _ _ rfl rfl vX ?_))
 clear zB vX hmk
 go_ret
 exact⟨_,rfl,g4,g,cap,by rw[← HN.out];rfl,by rw[← HN.out];exact rP.out⟩
theorem q8K {b:Nat} (h:fex b<2047):(FloatKind.f64.format.order b b==some .eq)=true:=by
 rw[FT.ord_f]
 have hn:FT.nan b=false:=by
  have:=(q42 b).1 h
  have hi:FT.infR=2047*2^52:=rfl
  unfold FT.nan
  exact decide_eq_false (by omega)
 rw[hn,Int.compare_eq_eq.2 rfl]
 rfl
theorem q0K (w:World) (v u:Value) (l:List Nat) (hfin:∀ k,k<l.length→(FloatKind.f64.format.order (l.getD k 0) (l.getD k 0)==some .eq)=true) (hv:FSl w v l) (hu:FSl w u l) (hn:l.length≤100000):
  Calls Tryz.prog 19 #[v,u,.func (.func 20) #[] #[]] w fun e w'=>e= .returned (.bool true)∧G w w':=by
 obtain⟨pa,ca,rfl,-,hr1⟩:=hv
 obtain⟨pb,cb,rfl,-,hr2⟩:=hu
 have H1:Hid _:=hr1
 have H2:Hid _:=hr2
 have HFin:Hid _:=hfin
 clear hr1 hr2 hfin
 have hcf:∀ args w,(callFunc 20 args).run Tryz.prog w= .ok (.enter 20 args) w:=fun _ _=>by kernel_rfl
 obtain⟨n,hn'⟩:∃ n,n=l.length:=⟨_,rfl⟩
 rw[← hn'] at hn ⊢
 have HN:Hid (n=l.length):=hn'
 clear hn'
 go_enter Tryz.func19,Tryz.ntmps19
 go_wp2_with fail
 go_loopw [15] (fun vk wr=>∃ k:Nat,k≤n∧vk= .int .i64 k∧G w wr) (fun vk _=>n-(intOf vk).toNat)
 case atStart=>exact⟨0,Nat.zero_le _,rfl,G.refl _⟩
 case round=>
  obtain⟨k,hk,rfl,hG⟩:=hrel
  by_cases hkn:k<n
  ·obtain⟨b1,o1,rfl,hB1,hc1'⟩:=H1.out k (by rw[← HN.out];exact hkn)
   obtain⟨b2,o2,rfl,hB2,hc2'⟩:=H2.out k (by rw[← HN.out];exact hkn)
   have hc1:=hG.cell (p:=⟨b1,o1+k,none⟩) hB1 hc1'
   have hc2:=hG.cell (p:=⟨b2,o2+k,none⟩) hB2 hc2'
   have CY:=HFin.out k (by rw[← HN.out];exact hkn)
   generalize l.getD k 0=x at *
   have HX:Hid _:=CY
   clear CY
   have hs:=hG.size
   have hb1:b1<wr.heap.size:=by omega
   have hb2:b2<wr.heap.size:=by omega
   clear hc1' hc2' hB1 hB2
   go_wp2_with fail
   refine q0c (by kernel_rfl) (by kernel_rfl) ?_
   intro W hW
   have hq1:=q08 (w:=W) (a:=⟨b1,o1+k,none⟩) (x:= .float .f64 x) (by rw[hW];first|(simp;done)|(simp;omega)|omega) (by rw[hW];first|assumption|(simp [go_sem];done)|(simp [*,go_sem];done))
   have hq2:=q08 (w:=W) (a:=⟨b2,o2+k,none⟩) (x:= .float .f64 x) (by rw[hW];first|(simp;done)|(simp;omega)|omega) (by rw[hW];first|assumption|(simp [go_sem];done)|(simp [*,go_sem];done))
   clear hW
   repeat (go_big_quiet_step (exact q1J (q5f _ _ HX.out)))
   refine wpQuiet_nil ?_
   clear hq1 hq2
   intro w5 kY
   have fQ:=G.trans hG kY
   clear kY hc1 hc2
   go_wp2_with fail
   go_roundw
   case rel=>exact⟨k+1,by omega,by go_num,fQ⟩
   case measure=>simp only[intOf];omega
  ·obtain rfl:k=n:=by omega
   go_wp2_with fail
   go_ret
   exact⟨rfl,hG⟩
theorem q7u (l:List Nat) (m i:Nat) (h:i<l.length):(l++[m,m,m]).getD i 0=l.getD i 0:=by
 rw[List.getD_eq_getElem?_getD,List.getD_eq_getElem?_getD,List.getElem?_append_left h]
theorem q98 (l:List Nat) (m i:Nat) (h:l.length≤i) (h2:i<l.length+3):(l++[m,m,m]).getD i 0=m:=by
 rw[List.getD_eq_getElem?_getD,List.getElem?_append_right h]
 have:i-l.length=0∨i-l.length=1∨i-l.length=2:=by omega
 rcases this with e|e|e<;>rw[e]<;>rfl
set_option maxRecDepth 10000 in
theorem q1W (w:World) (base:Nat) (v u:Value) (l:List Nat) (m:Nat) (hv:Lent w base v l m) (hu:FSl w u l) (hn:l.length<5000):
  Calls Tryz.prog 22 #[v,u,.float .f64 m,.func (.func 23) #[] #[]] w fun e w'=>e= .returned (.bool true)∧G w w':=by
 obtain⟨g,cap,rfl,hown⟩:=hv
 obtain⟨pb,cb,rfl,-,hr2⟩:=hu
 have hcap:l.length+3≤cap:=by
  rcases hown with ⟨h,-⟩|⟨g',cap',cur,h,-,-,h3,-⟩
  ·cases h
  ·injection h with _ _ h
   subst h
   simp at h3
   exact h3
 have hf:=hown.fsl
 obtain⟨pa,ca,e,-,hr1⟩:=hf
 injection e with e1 e2 e3
 subst e1
 have H1:Hid (∀ i,i<l.length+3→g<w.heap.size∧w.cell? ⟨g,i,none⟩=some (.float .f64 ((l++[m,m,m]).getD i 0))):=fun i hi=>by
  obtain⟨b,o,e,h1,h2⟩:=hr1 i (by simp;omega)
  injection e with e
  injection e with e4 e5
  subst e4;subst e5
  rw[Nat.zero_add] at h2
  exact⟨h1,h2⟩
 have H2:Hid _:=hr2
 clear hr1 hr2 hown e2 e3
 have hcf:∀ args w,(callFunc 23 args).run Tryz.prog w= .ok (.enter 23 args) w:=fun _ _=>by kernel_rfl
 obtain⟨n,hn'⟩:∃ n,n=l.length:=⟨_,rfl⟩
 rw[← hn'] at hn hcap ⊢
 have HN:Hid (n=l.length):=hn'
 clear hn'
 go_enter Tryz.func22,Tryz.ntmps22
 go_wp2_with fail
 go_loopw [19] (fun vk wr=>∃ k:Nat,k≤n+3∧vk= .int .i64 k∧G w wr) (fun vk _=>n+3-(intOf vk).toNat)
 case atStart=>exact⟨0,Nat.zero_le _,rfl,G.refl _⟩
 case round=>
  obtain⟨k,hk,rfl,hG⟩:=hrel
  by_cases hkn:k<n
  ·obtain⟨hB1,hc1'⟩:=H1.out k (by rw[← HN.out];omega)
   obtain⟨b2,o2,rfl,hB2,hc2'⟩:=H2.out k (by rw[← HN.out];exact hkn)
   rw[q7u l m k (by rw[← HN.out];exact hkn)] at hc1'
   have hc1:=hG.cell (p:=⟨g,k,none⟩) hB1 hc1'
   have hc2:=hG.cell (p:=⟨b2,o2+k,none⟩) hB2 hc2'
   generalize l.getD k 0=x at *
   clear hc1' hc2' hB1 hB2
   have hge:decide ((n:Int)≤k)=false:=decide_eq_false (by omega)
   go_wp2_with fail
   refine Calls.mono (P:=Tryz.prog) (q2D wr x) ?_
   rintro e1 w1 ⟨rfl,g1⟩
   go_wp2_with fail
   go_roundw
   case rel=>exact⟨k+1,by omega,by go_num,G.trans hG g1⟩
   case measure=>simp only[intOf];omega
  ·by_cases hk3:k<n+3
   ·obtain⟨hB1,hc1'⟩:=H1.out k (by rw[← HN.out];exact hk3)
    rw[q98 l m k (by rw[← HN.out];omega) (by rw[← HN.out];exact hk3)] at hc1'
    have hc1:=hG.cell (p:=⟨g,k,none⟩) hB1 hc1'
    clear hc1' hB1
    have hge:decide ((n:Int)≤k)=true:=decide_eq_true (by omega)
    have hlt:decide ((k:Int)<n)=false:=decide_eq_false (by omega)
    go_wp2_with fail
    refine Calls.mono (P:=Tryz.prog) (q2D wr m) ?_
    rintro e1 w1 ⟨rfl,g1⟩
    go_wp2_with fail
    go_roundw
    case rel=>exact⟨k+1,by omega,by go_num,G.trans hG g1⟩
    case measure=>simp only[intOf];omega
   ·obtain rfl:k=n+3:=by omega
    go_wp2_with fail
    go_ret
    exact⟨rfl,hG⟩
end Go.Proofs.YtljkfjjchkehaaaGreatDoor.EN
