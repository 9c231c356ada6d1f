/- What is proved here: package geom's Hull answers what the reference's HullOf does, over this seat's translation.
What is proved here: the law GeomHulls holds, over this seat's translation. -/
import Derived.Test.YtdidnnbpdcanlaaGreatDoorC48
import Derived.Test.YtdidnnbpdcanlaaGreatDoorC52
import Derived.Test.YtdidnnbpdcanlaaGreatDoorC40
import Derived.Test.YtdidnnbpdcanlaaGreatDoorC35
import Derived.Test.YtdidnnbpdcanlaaGreatDoorC38
import Derived.Test.YtdidnnbpdcanlaaGreatDoorC42
import Derived.Test.YtdidnnbpdcanlaaGreatDoorC46
namespace Go.Proofs.YtdidnnbpdcanlaaGreatDoor.EN
open Go.ChangeShapes Go.WideShapes Go.ChangeAt Go.RowKit
theorem q3C {l:List (Nat×Nat)} {c a c' a':Int} (h:q27 l c a) (h':q27 l c' a'):c'=c∧a'=a:=by
 rcases h with ⟨rfl,rfl,hf⟩|⟨i,rfl,rfl,hi,hn,hb⟩
 ·rcases h' with ⟨h1,h2,-⟩|⟨j,-,-,hj,hm,-⟩
  ·exact⟨h1,h2⟩
  ·exact absurd (hf j hj) hm
 ·rcases h' with ⟨rfl,rfl,hf⟩|⟨j,rfl,rfl,hj,hm,hd⟩
  ·exact absurd (hf i hi) hn
  ·rcases Nat.lt_trichotomy i j with h|h|h
   ·exact absurd (hd i h) hn
   ·rw[h];exact⟨rfl,rfl⟩
   ·exact absurd (hb j h) hm
theorem q6A {l s1 s:List (Nat×Nat)} (hl:∀ p∈l,FinP p) (hs:s.Perm l) (ss:q0y s) (h1:s1.Perm (l.foldl addK [])) (t1:q0y s1):(q0U s).map z2=if s1.length<3 then s1.map z2 else Hull.hull (s1.map z2):=by
 have e:=q8n hl hs ss h1 t1
 have el:=congrArg List.length e
 rw[List.length_map,List.length_map] at el
 unfold q0U
 by_cases h2:(q0u s s.length).length<2
 ·rw[if_pos h2,if_pos (by omega),e]
 ·rw[if_neg h2,q5L,e]
  by_cases h3:s1.length<3
  ·rw[if_pos h3]
   match s1,el,h2,h3 with
   |[],el,h2,h3=>exact absurd (show _<2 by rw[el];exact Nat.zero_lt_succ _) h2
   |[a],el,h2,h3=>exact absurd (show _<2 by rw[el];exact Nat.lt_succ_self _) h2
   |[a,b],_,_,_=>rfl
   |a::b::c::r,el,h2,h3=>simp at h3;omega
  ·rw[if_neg h3]
theorem q5a {s:List (Nat×Nat)}:∀ q∈q0U s,q∈s:=by
 intro q hq
 have hm:∀ p∈q0u s s.length,p∈s:=fun p hp=>q5K p hp
 unfold q0U at hq
 split at hq
 ·exact hm q hq
 ·unfold q2r at hq
  rcases List.mem_append.1 hq with h|h
  ·rcases q4M q (List.mem_reverse.1 (List.dropLast_subset _ h)) with k|k
   ·exact absurd k List.not_mem_nil
   ·exact hm q k
  ·rcases q4M q (List.mem_reverse.1 (List.dropLast_subset _ h)) with k|k
   ·exact absurd k List.not_mem_nil
   ·exact hm q (List.mem_reverse.1 k)
theorem q5g (s:List (Nat×Nat)):(q0U s).length≤2*s.length:=by
 have h1:=q5O s s.length
 unfold q0U
 split
 ·omega
 ·have:=q5Z (q0u s s.length)
  omega
theorem qan {p q:Nat×Nat} (hp:FinP p) (hq:FinP q) (h:z2 p=z2 q):q6H p q:=
 ⟨q9z hp.1 hq.1 (congrArg Prod.fst h),q9z hp.2 hq.2 (congrArg Prod.snd h)⟩
theorem q7W {r want:List (Nat×Nat)} (hr:∀ q∈r,FinP q) (hw:∀ q∈want,FinP q) (h:r.map z2=want.map z2):r.length=want.length∧∀ k,k<r.length→q6H (r.getD k (0,0)) (want.getD k (0,0)):=by
 have hl:r.length=want.length:=by
  have:=congrArg List.length h
  rwa[List.length_map,List.length_map] at this
 refine⟨hl,fun k hk=> ?_⟩
 have hk2:k<want.length:=by omega
 have e:=congrArg (fun x=>x[k]?) h
 simp only[List.getElem?_map,List.getElem?_eq_getElem hk,List.getElem?_eq_getElem hk2,Option.map_some] at e
 rw[List.getD_eq_getElem?_getD,List.getD_eq_getElem?_getD,List.getElem?_eq_getElem hk,List.getElem?_eq_getElem hk2]
 exact qan (hr _ (List.getElem_mem hk)) (hw _ (List.getElem_mem hk2)) (Option.some.inj e)
/-- Hull's answer: the same points as wanted, and this fault. -/
def RetH (w:World) (want:List (Nat×Nat)) (c a:Int) (e:Ending) (w':World):Prop:=∃ h r,e= .returned (.tuple #[h,.agg #[.int .i64 c,.int .i64 a]])∧G w w'∧POwn w' w.heap.size h r∧r.length=want.length∧r.length≤1000∧∀ k,k<r.length→q6H (r.getD k (0,0)) (want.getD k (0,0))
theorem q8z (w:World) (v:Value) (l s1 want:List (Nat×Nat)) (hT:Tab w) (h:PSl w v l) (hl:∀ p∈l,PtOk p) (hn:l.length≤60) (h1:s1.Perm (l.foldl addK [])) (t1:q0y s1)
  (hw:want.map z2=if s1.length<3 then s1.map z2 else Hull.hull (s1.map z2)) (hf:∀ q∈want,FinP q):Calls Tryz.prog 9 #[v] w (RetH w want 0 0):=by
 by_cases h0:l=[]
 ·subst h0
  have e1:s1=[]:=List.perm_nil.1 h1
  subst e1
  have e2:want=[]:=by simpa using hw
  subst e2
  refine Calls.mono (P:=Tryz.prog) (q9m w v h) ?_
  rintro e w' ⟨u,rfl,g,ho⟩
  exact⟨u,[],rfl,g,ho,rfl,by simp,fun k hk=>nomatch hk⟩
 ·refine Calls.mono (P:=Tryz.prog) (q9b w v l hT h hl (List.length_pos_iff.2 h0) hn) ?_
  rintro e w' ⟨u,s,rfl,g,hp,hs,ho⟩
  have hz:=q6A (fun p hp=>(hl p hp).2.2) hp hs h1 t1
  obtain⟨k1,k2⟩:=q7W (r:=q0U s) (want:=want) (fun q hq=>(hl q (hp.mem_iff.1 (q5a q hq))).2.2) hf (by rw[hz,hw])
  refine⟨u,q0U s,rfl,g,ho,k1,?_,k2⟩
  have:=q5g s
  have:=hp.length_eq
  omega
attribute [local go_sem] q0d
theorem q7S (l:List (Nat×Nat)):∀ n,n≤l.length→(∀ j,j<n→FinP (l.getD j (0,0)))∨∃ i,i<n∧¬ FinP (l.getD i (0,0))∧∀ j,j<i→FinP (l.getD j (0,0)):=by
 intro n
 induction n with
 |zero=>intro _;exact Or.inl fun j hj=>nomatch hj
 |succ n ih=>
  intro hn
  rcases ih (by omega) with h|⟨i,h1,h2,h3⟩
  ·by_cases hf:FinP (l.getD n (0,0))
   ·refine Or.inl fun j hj=> ?_
    by_cases e:j=n
    ·rw[e];exact hf
    ·exact h j (by omega)
   ·exact Or.inr ⟨n,by omega,hf,h⟩
  ·exact Or.inr ⟨i,by omega,h2,h3⟩
theorem q6q (l:List (Nat×Nat)):∃ c a,q27 l c a:=by
 rcases q7S l l.length (Nat.le_refl _) with h|⟨i,h1,h2,h3⟩
 ·exact⟨0,0,Or.inl ⟨rfl,rfl,h⟩⟩
 ·exact⟨4,i,Or.inr ⟨i,rfl,rfl,h1,h2,h3⟩⟩
/-- What holds of a list's points. -/
theorem q6y (l:List (Nat×Nat)) (hl:∀ p∈l,p.1<2^64∧p.2<2^64):∃ c a:Int,(∀ w u,PSl w u l→Calls Tryz.prog 6 #[u] w fun e w'=>e= .returned (.agg #[.int .i64 c,.int .i64 a])∧G w w')∧
  ((c=0∧a=0∧l.length≤60∧∀ p∈l,PtOk p)∨(c≠0∧∀ w u,PSl w u l→Calls Tryz.prog 9 #[u] w (RetH w [] c a))):=by
 have hnil:∀ (c a:Int) (w:World) (e:Ending) (w':World),(e= .returned (.tuple #[.slice none 0 0,.agg #[.int .i64 c,.int .i64 a]])∧G w w')→RetH w [] c a e w':=by
  rintro c a w e w' ⟨rfl,g⟩
  exact⟨_,[],rfl,g,q2m _ _,rfl,by simp,fun k hk=>nomatch hk⟩
 by_cases M0:60<l.length
 ·refine⟨2,0,fun w u h=> ?_,Or.inr ⟨by decide,fun w u h=> ?_⟩⟩
  ·obtain⟨pa,ca,rfl,-,-⟩:=h
   exact q2P w pa l.length ca M0
  ·obtain⟨pa,ca,rfl,-,-⟩:=h
   exact Calls.mono (P:=Tryz.prog) (q3u w _ 2 0 (by decide) fun w1 _=>q6h w1 pa l.length ca M0) fun e w' h=>hnil 2 0 w e w' h
 ·obtain⟨c,a,dB⟩:=q6q l
  have hb:∀ i,i<l.length→(l.getD i (0,0)).1<2^64∧(l.getD i (0,0)).2<2^64:=fun i hi=>hl _ (q3P hi)
  refine⟨c,a,fun w u h=> ?_,?_⟩
  ·refine Calls.mono (P:=Tryz.prog) (q4a w u l h hb (by omega)) ?_
   rintro e w' ⟨c2,a2,rfl,g,hv⟩
   obtain⟨rfl,rfl⟩:=q3C dB hv
   exact⟨rfl,g⟩
  ·by_cases hc:c=0
   ·refine Or.inl ?_
    have h0:a=0∧FinL l:=by
     rcases dB with ⟨-,h1,h2⟩|⟨i,h1,-⟩
     ·exact⟨h1,h2⟩
     ·omega
    refine⟨hc,h0.1,by omega,fun p hp=> ?_⟩
    obtain⟨i,hi,rfl⟩:=List.mem_iff_getElem.1 hp
    have h1:=h0.2 i hi
    rw[List.getD_eq_getElem?_getD,List.getElem?_eq_getElem hi] at h1
    exact⟨(hl _ hp).1,(hl _ hp).2,h1⟩
   ·refine Or.inr ⟨hc,fun w u h=> ?_⟩
    refine Calls.mono (P:=Tryz.prog) (q3u w u c a hc fun w1 g=> ?_) fun e w' h=>hnil c a w e w' h
    refine Calls.mono (P:=Tryz.prog) (q2x w1 u l (h.G g) hb (by omega)) ?_
    rintro e w' ⟨c2,a2,rfl,g2,hv⟩
    obtain⟨rfl,rfl⟩:=q3C dB hv
    exact⟨rfl,g2⟩
/-- The law's mark lies where it was laid. -/
def NoPt (w:World):Prop:=0<w.heap.size∧w.cell? ⟨0,0,none⟩=some (.float .f64 13845050416955392000)∧w.cell? ⟨0,1,none⟩=some (.float .f64 13845050416955392000)
theorem NoPt.G {w w':World} (h:NoPt w) (g:G w w'):NoPt w':=
 ⟨Nat.lt_of_lt_of_le h.1 g.size,g.cell (p:=⟨0,0,none⟩) h.1 h.2.1,g.cell (p:=⟨0,1,none⟩) h.1 h.2.2⟩
set_option maxRecDepth 20000 in
set_option maxHeartbeats 2000000 in
theorem geomHulls_c (w:World) (v:Value) (l:List (Nat×Nat)) (hT:Tab w) (hN:NoPt w) (h:PSl w v l) (hl:∀ p∈l,p.1<2^64∧p.2<2^64):
  Calls Tryz.prog 3 #[v] w fun e w'=>e= .returned (.bool true)∧G w w':=by
 obtain⟨pa,ca,rfl,-,-⟩:=id h
 have HP:Hid (PSl w (.slice pa l.length ca) l):=h
 have Gx:Hid (∀ w1,G w w1→_):=fun w1 g=>qaL w1 (hT.G g)
 have oW:Hid (Tab w):=hT
 have HN:Hid (NoPt w):=hN
 obtain⟨c,a,hck,hcase⟩:=q6y l hl
 have M3:Hid (∀ w1 u,PSl w1 u l→_):=hck
 have Bb:Hid _:=hcase
 obtain⟨n,hn'⟩:∃ n,n=l.length:=⟨_,rfl⟩
 rw[← hn'] at HP ⊢
 have Fv:Hid (n=l.length):=hn'
 clear hT hN h hl hck hcase hn'
 by_cases Py:200<n
 ·have hb:decide ((200:Int)<(n:Int))=true:=decide_eq_true (by omega)
  go_enter Tryz.func3,Tryz.ntmps3
  go_wp2_with fail
  refine Calls.mono (P:=Tryz.prog) (Gx.out w (G.refl _)) ?_
  rintro e w1 ⟨rfl,g1⟩
  go_wp2_with fail
  go_ret
  exact⟨rfl,g1⟩
 ·have hb:decide ((200:Int)<(n:Int))=false:=decide_eq_false (by omega)
  go_enter Tryz.func3,Tryz.ntmps3
  go_wp2_with fail
  refine Calls.mono (P:=Tryz.prog) (Gx.out w (G.refl _)) ?_
  rintro e w1 ⟨rfl,g1⟩
  go_wp2_with fail
  refine Calls.mono (P:=Tryz.prog) (M3.out w1 _ (HP.out.G g1)) ?_
  rintro e w2 ⟨rfl,g2⟩
  have R3:Hid (Rec (w2.alloc (.cells #[.int .i64 c,.int .i64 a] 26)) w2.heap.size [.int .i64 c,.int .i64 a]):=Rec.new2 w2 _ _ _
  have g3:G w (w2.alloc (.cells #[.int .i64 c,.int .i64 a] 26)):=(G.trans g1 g2).alloc _
  have iO:=Rec.f2 (Rec.G R3.out (G.refl _))
  have lh:=iO.1
  have ll:=iO.2.1
  have lq:=iO.2.2.1
  have lu:=iO.2.2.2
  clear iO
  clear g1 g2 Gx M3
  by_cases hc:c=0
  ·have BF:Hid (a=0∧l.length≤60∧∀ p∈l,PtOk p):=by
    rcases Bb.out with ⟨-,h⟩|⟨h,-⟩
    ·exact h
    ·exact absurd hc h
   have Pz:Hid (c=0):=hc
   have hct:(c==0)=true:=by simpa using hc
   clear Bb hc
   go_wp2_with fail
   clear lh ll lq lu
   generalize w2.alloc (.cells #[.int .i64 c,.int .i64 a] 26)=w3 at *
   generalize w2.heap.size=bF at *
   refine Calls.mono (P:=Tryz.prog) (q9q w3 (.slice pa n ca) l (HP.out.G g3) BF.out.2.2 BF.out.2.1) ?_
   rintro e w4 ⟨x4,s1,want,rfl,Gy,hw4,hp1,hs1,hwz,hwf⟩
   have g4:=G.trans g3 Gy
   have RF:Hid (Rec w4 bF [.int .i64 c,.int .i64 a]):=Rec.G R3.out Gy
   have Gz:Hid (∀ w1 u,G w w1→PSl w1 u l→Calls Tryz.prog 9 #[u] w1 (RetH w1 want c a)):=fun w1 u g hu=>by
    rw[Pz.out,BF.out.1]
    exact q8z w1 u l s1 want (oW.out.G g) hu BF.out.2.2 BF.out.2.1 hp1 hs1 hwz hwf
   obtain⟨a4,c4,rfl⟩:=hw4.len
   have Bc:Hid (PSl w4 (.slice a4 want.length c4) want):=hw4.psl
   clear g3 Gy hw4 hp1 hs1 hwz hwf R3
   obtain⟨n4,BG⟩:∃ n4,n4=want.length:=⟨_,rfl⟩
   rw[← BG] at Bc ⊢
   clear BG
   obtain⟨xD,mk2,xE⟩:=HN.out.G g4
   go_wp2_with fail
   clear xD mk2 xE
   refine Calls.mono (P:=Tryz.prog) (q6Z w4 (.slice pa n ca) l 13845050416955392000 13845050416955392000 (HP.out.G g4) (by have:=Fv.out;omega)) ?_
   rintro e5 wB ⟨x5,rfl,g5,hx5⟩
   have HX:Hid (LentP wB w4.heap.size x5 l (13845050416955392000,13845050416955392000)):=hx5
   have GA:Hid (PSl wB _ _):=Bc.out.G g5
   have RB:Hid (Rec wB bF [.int .i64 c,.int .i64 a]):=Rec.G RF.out g5
   have gB:Hid (G w wB):=G.trans g4 g5
   obtain⟨gx,cx,ex,-⟩:=hx5
   subst ex
   clear g4 g5 Bc RF
   go_wp2_with fail
   go_loopw [23] (fun vk wr=>∃ k:Nat,k≤2∧vk= .int .i64 k∧G wB wr) (fun vk _=>2-(intOf vk).toNat)
   case atStart=>exact⟨0,Nat.zero_le _,rfl,G.refl _⟩
   case round=>
    obtain⟨k,hk,rfl,hG⟩:=hrel
    by_cases hkn:k<2
    ·have hlt2:decide ((k:Int)<2)=true:=decide_eq_true (by omega)
     go_wp2_with fail
     refine Calls.mono (P:=Tryz.prog) (Gz.out wr _ (G.trans gB.out hG) (HX.out.G hG).psl) ?_
     intro e10 aS hs
     obtain⟨h10,r,rfl,g10,nM,hlen,hle,hsame⟩:=hs
     obtain⟨ah,ch,rfl⟩:=nM.len
     have jB:Hid (POwn aS wr.heap.size (.slice ah r.length ch) r):=nM
     have tq:Hid (_∧_∧_):=⟨hlen,hle,hsame⟩
     clear nM hlen hle hsame
     have R7:Hid (Rec (aS.alloc (.cells #[.int .i64 c,.int .i64 a] 26)) aS.heap.size [.int .i64 c,.int .i64 a]):=Rec.new2 aS _ _ _
     have g11:G aS (aS.alloc (.cells #[.int .i64 c,.int .i64 a] 26)):=(G.refl aS).alloc _
     have BH:Hid (Rec (aS.alloc (.cells #[.int .i64 c,.int .i64 a] 26)) bF [.int .i64 c,.int .i64 a]):=Rec.G RB.out (G.trans hG (G.trans g10 g11))
     have jC:=Rec.f2 (Rec.G R7.out (G.refl _))
     have nN:=jC.1
     have nO:=jC.2.1
     have nS:=jC.2.2.1
     have nT:=jC.2.2.2
     clear jC
     have fH:=Rec.f2 (Rec.G BH.out (G.refl _))
     have lC:=fH.1
     have lD:=fH.2.1
     have lF:=fH.2.2.1
     have lG:=fH.2.2.2
     clear fH
     go_wp2_with fail
     clear nN nO nS nT lC lD lF lG
     generalize aS.alloc (.cells #[.int .i64 c,.int .i64 a] 26)=dE at *
     have nU:=G.trans g10 g11
     have iT:Hid (POwn dE wr.heap.size (.slice ah r.length ch) r):=jB.out.G g11
     refine Calls.mono (P:=Tryz.prog) (q3I dE _ _ r _ tq.out.1 tq.out.2.2 iT.out.psl (GA.out.G (G.trans hG nU)) (by have:=tq.out.2.1;omega)) ?_
     rintro e12 kv ⟨rfl,g12⟩
     have lH:=G.trans nU g12
     obtain⟨xD,mk2,xE⟩:=HN.out.G (G.trans gB.out (G.trans hG lH))
     clear R7 BH g10 g11 nU jB
     go_wp2_with fail
     refine Calls.mono (P:=Tryz.prog) (q5I kv _ _ _ l 13845050416955392000 13845050416955392000 (HX.out.G (G.trans hG lH)) (HP.out.G (G.trans gB.out (G.trans hG lH))) (by have:=Fv.out;omega)) ?_
     rintro e13 kz ⟨rfl,g13⟩
     clear xD mk2 xE
     go_wp2_with fail
     refine Calls.mono (P:=Tryz.prog) (q5Y kz wr.heap.size _ r (iT.out.G (G.trans g12 g13))) ?_
     rintro e14 PD ⟨rfl,hsp⟩
     have hGn:=G.trans hG (hsp.g wr (Nat.le_refl _) (G.trans lH g13))
     clear hsp
     go_wp2_with fail
     go_roundw
     case rel=>exact⟨k+1,by omega,by go_num,hGn⟩
     case measure=>simp only[intOf];omega
    ·have hlt2:decide ((k:Int)<2)=false:=decide_eq_false (by omega)
     go_wp2_with fail
     go_ret
     exact⟨rfl,G.trans gB.out hG⟩
  ·have Gz:Hid (∀ w1 u,G w w1→PSl w1 u l→Calls Tryz.prog 9 #[u] w1 (RetH w1 [] c a)):=by
    rcases Bb.out with ⟨h,-⟩|⟨-,h⟩
    ·exact absurd h hc
    ·exact fun w1 u _ hu=>h w1 u hu
   have hcf:(c==0)=false:=by simpa using hc
   clear Bb
   obtain⟨w4,hw4⟩:∃ w4,w4=w2.alloc (.cells #[.int .i64 c,.int .i64 a] 26):=⟨_,rfl⟩
   obtain⟨bF,GD⟩:∃ bF,bF=w2.heap.size:=⟨_,rfl⟩
   have RF:Hid (Rec w4 bF [.int .i64 c,.int .i64 a]):=by
    show Rec _ _ _
    rw[hw4,GD];exact R3.out
   have g4:G w w4:=by rw[hw4];exact g3
   have Bc:Hid (PSl w4 (.slice none 0 0) []):=⟨none,0,rfl,Nat.le_refl _,fun i hi=>nomatch hi⟩
   obtain⟨xD,mk2,xE⟩:=HN.out.G g3
   go_wp2_with fail
   rw[← hw4,← GD]
   clear lh ll lq lu hw4 GD R3 g3 xD mk2 xE
   refine Calls.mono (P:=Tryz.prog) (q6Z w4 (.slice pa n ca) l 13845050416955392000 13845050416955392000 (HP.out.G g4) (by have:=Fv.out;omega)) ?_
   rintro e5 wB ⟨x5,rfl,g5,hx5⟩
   have HX:Hid (LentP wB w4.heap.size x5 l (13845050416955392000,13845050416955392000)):=hx5
   have GA:Hid (PSl wB _ _):=Bc.out.G g5
   have RB:Hid (Rec wB bF [.int .i64 c,.int .i64 a]):=Rec.G RF.out g5
   have gB:Hid (G w wB):=G.trans g4 g5
   obtain⟨gx,cx,ex,-⟩:=hx5
   subst ex
   clear g4 g5 Bc RF
   go_wp2_with fail
   go_loopw [23] (fun vk wr=>∃ k:Nat,k≤2∧vk= .int .i64 k∧G wB wr) (fun vk _=>2-(intOf vk).toNat)
   case atStart=>exact⟨0,Nat.zero_le _,rfl,G.refl _⟩
   case round=>
    obtain⟨k,hk,rfl,hG⟩:=hrel
    by_cases hkn:k<2
    ·have hlt2:decide ((k:Int)<2)=true:=decide_eq_true (by omega)
     go_wp2_with fail
     refine Calls.mono (P:=Tryz.prog) (Gz.out wr _ (G.trans gB.out hG) (HX.out.G hG).psl) ?_
     intro e10 aS hs
     obtain⟨h10,r,rfl,g10,nM,hlen,hle,hsame⟩:=hs
     obtain⟨ah,ch,rfl⟩:=nM.len
     have jB:Hid (POwn aS wr.heap.size (.slice ah r.length ch) r):=nM
     have tq:Hid (_∧_∧_):=⟨hlen,hle,hsame⟩
     clear nM hlen hle hsame
     have R7:Hid (Rec (aS.alloc (.cells #[.int .i64 c,.int .i64 a] 26)) aS.heap.size [.int .i64 c,.int .i64 a]):=Rec.new2 aS _ _ _
     have g11:G aS (aS.alloc (.cells #[.int .i64 c,.int .i64 a] 26)):=(G.refl aS).alloc _
     have BH:Hid (Rec (aS.alloc (.cells #[.int .i64 c,.int .i64 a] 26)) bF [.int .i64 c,.int .i64 a]):=Rec.G RB.out (G.trans hG (G.trans g10 g11))
     have jC:=Rec.f2 (Rec.G R7.out (G.refl _))
     have nN:=jC.1
     have nO:=jC.2.1
     have nS:=jC.2.2.1
     have nT:=jC.2.2.2
     clear jC
     have fH:=Rec.f2 (Rec.G BH.out (G.refl _))
     have lC:=fH.1
     have lD:=fH.2.1
     have lF:=fH.2.2.1
     have lG:=fH.2.2.2
     clear fH
     go_wp2_with fail
     clear nN nO nS nT lC lD lF lG
     generalize aS.alloc (.cells #[.int .i64 c,.int .i64 a] 26)=dE at *
     have nU:=G.trans g10 g11
     have iT:Hid (POwn dE wr.heap.size (.slice ah r.length ch) r):=jB.out.G g11
     refine Calls.mono (P:=Tryz.prog) (q3I dE _ _ r _ tq.out.1 tq.out.2.2 iT.out.psl (GA.out.G (G.trans hG nU)) (by have:=tq.out.2.1;omega)) ?_
     rintro e12 kv ⟨rfl,g12⟩
     have lH:=G.trans nU g12
     obtain⟨xD,mk2,xE⟩:=HN.out.G (G.trans gB.out (G.trans hG lH))
     clear R7 BH g10 g11 nU jB
     go_wp2_with fail
     refine Calls.mono (P:=Tryz.prog) (q5I kv _ _ _ l 13845050416955392000 13845050416955392000 (HX.out.G (G.trans hG lH)) (HP.out.G (G.trans gB.out (G.trans hG lH))) (by have:=Fv.out;omega)) ?_
     rintro e13 kz ⟨rfl,g13⟩
     clear xD mk2 xE
     go_wp2_with fail
     refine Calls.mono (P:=Tryz.prog) (q5Y kz wr.heap.size _ r (iT.out.G (G.trans g12 g13))) ?_
     rintro e14 PD ⟨rfl,hsp⟩
     have hGn:=G.trans hG (hsp.g wr (Nat.le_refl _) (G.trans lH g13))
     clear hsp
     go_wp2_with fail
     go_roundw
     case rel=>exact⟨k+1,by omega,by go_num,hGn⟩
     case measure=>simp only[intOf];omega
    ·have hlt2:decide ((k:Int)<2)=false:=decide_eq_false (by omega)
     go_wp2_with fail
     go_ret
     exact⟨rfl,G.trans gB.out hG⟩
end Go.Proofs.YtdidnnbpdcanlaaGreatDoor.EN
