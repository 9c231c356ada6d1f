/- What is proved here: the closed facts on five points in their order, over this seat's translation (no program).
What is proved here: the closed fact on figures holds, over this seat's translation. -/
import Derived.Test.YtdidnnbpdcanlaaGreatDoorC37
import Derived.Test.YtdidnnbpdcanlaaGreatDoorC45
import Derived.Test.YtdidnnbpdcanlaaGreatDoorC35
namespace Go.Proofs.YtdidnnbpdcanlaaGreatDoor.EN
open Go.ChangeShapes Go.WideShapes Go.ChangeAt Go.RowKit
/-- The five points of the law, and their order. -/
def five:List (Nat×Nat):=[(4607182418800017408,4607182418800017408),(0,0),(4611686018427387904,0),(4607182418800017408,0),(0,4611686018427387904)]
def fives:List (Nat×Nat):=[(0,0),(0,4611686018427387904),(4607182418800017408,0),(4607182418800017408,4607182418800017408),(4611686018427387904,0)]
theorem qar:∀ p∈five,PtOk p:=by
 intro p hp
 unfold five at hp
 simp only[List.mem_cons,List.not_mem_nil,or_false] at hp
 rcases hp with rfl|rfl|rfl|rfl|rfl<;>exact⟨by decide,by decide,by decide+kernel,by decide+kernel⟩
theorem q6O:∀ p∈five,∀ q∈five,p≠q→q81 p q:=by
 intro p hp q hq
 unfold five at hp hq
 simp only[List.mem_cons,List.not_mem_nil,or_false] at hp hq
 rcases hp with rfl|rfl|rfl|rfl|rfl<;>rcases hq with rfl|rfl|rfl|rfl|rfl<;>intro h<;>first|exact absurd rfl h|(unfold q81;decide+kernel)
theorem q6g:five.Nodup:=by decide
theorem q8X:q5d five:=by
 intro s hs k hk
 have hn:s.Nodup:=hs.nodup_iff.2 q6g
 have h1:s.getD (k+1) (0,0)=s[k+1]:=by rw[List.getD_eq_getElem?_getD,List.getElem?_eq_getElem hk];rfl
 have h0:s.getD k (0,0)=s[k]:=by rw[List.getD_eq_getElem?_getD,List.getElem?_eq_getElem (by omega)];rfl
 rw[h1,h0]
 refine q6O _ (hs.mem_iff.1 (List.getElem_mem _)) _ (hs.mem_iff.1 (List.getElem_mem _)) (fun e=> ?_)
 have:=List.pairwise_iff_getElem.1 hn k (k+1) (by omega) hk (by omega)
 exact this e.symm
theorem fives_perm:fives.Perm five:=by decide
theorem q86:∀ p∈five,∀ q∈five,¬ ordZ q p<0→¬ ordZ p q<0→p=q:=by
 intro p hp q hq
 unfold five at hp hq
 simp only[List.mem_cons,List.not_mem_nil,or_false] at hp hq
 rcases hp with rfl|rfl|rfl|rfl|rfl<;>rcases hq with rfl|rfl|rfl|rfl|rfl<;>first|(intro _ _;rfl)|(intro h1 h2;exact absurd (by decide+kernel) h1)|(intro h1 h2;exact absurd (by decide+kernel) h2)
theorem q5l {s:List (Nat×Nat)} (h:q0y s):s.Pairwise fun p q=>¬ ordZ q p<0:=by
 rw[List.pairwise_iff_getElem]
 intro i j hi hj hij
 have:=h i j hij hj
 rw[List.getD_eq_getElem?_getD,List.getD_eq_getElem?_getD,List.getElem?_eq_getElem hi,List.getElem?_eq_getElem hj] at this
 exact this
theorem q6D:fives.Pairwise fun p q=>¬ ordZ q p<0:=by decide+kernel
theorem q7H {s:List (Nat×Nat)} (hp:s.Perm five) (hs:q0y s):s=fives:=
 List.Perm.eq_of_pairwise (le:=fun p q=>¬ ordZ q p<0) (fun a b ha hb h1 h2=>q86 a (hp.mem_iff.1 ha) b (fives_perm.mem_iff.1 hb) h1 h2) (q5l hs) q6D (hp.trans fives_perm.symm)
theorem q6M:q2r fives=[(0,0),(4611686018427387904,0),(0,4611686018427387904)]:=by decide+kernel
theorem q9o:(q2O 0 0 4607182418800017408 0 0 4607182418800017408).sign=1:=by decide+kernel
theorem q8q:(q7n (fz 0-fz 4607182418800017408) (fz 0-fz 4607182418800017408) (fz 4607182418800017408-fz 4607182418800017408) (fz 0-fz 4607182418800017408) (fz 0-fz 4607182418800017408) (fz 4607182418800017408-fz 4607182418800017408)).sign=0:=by decide+kernel
theorem q83:∀ k,k<3→q6H ([(0,0),(4611686018427387904,0),(0,4611686018427387904)].getD k (0,0)) ([(0,0),(4611686018427387904,0),(0,4611686018427387904)].getD k (0,0)):=by
 intro k hk
 have:k=0∨k=1∨k=2:=by omega
 rcases this with rfl|rfl|rfl<;>exact⟨by decide+kernel,by decide+kernel⟩
attribute [local go_sem] q0d
theorem q8i {w:World} {b:Nat} {l:List (Nat×Nat)} (h:Rec w b (pl l)):PSl w (.slice (some ⟨b,0,none⟩) l.length l.length) l:=by
 refine⟨_,_,rfl,Nat.le_refl _,fun i hi=>⟨b,0,rfl,h.lt,?_⟩⟩
 obtain⟨k1,k2⟩:=q7M hi
 rw[Nat.zero_add]
 exact⟨(h.cell (i*2)).trans k1,(h.cell (i*2+1)).trans k2⟩
theorem q5P {l:List (Nat×Nat)} {c a:Int} (h:q27 l c a) (hf:FinL l):c=0∧a=0:=by
 rcases h with ⟨h1,h2,-⟩|⟨i,-,-,h3,h4,-⟩
 ·exact⟨h1,h2⟩
 ·exact absurd (hf i h3) h4
set_option maxRecDepth 20000 in
set_option maxHeartbeats 2000000 in
theorem qaL (w:World) (hT:Tab w):Calls Tryz.prog 5 #[] w fun e w'=>e= .returned (.bool true)∧G w w':=by
 have f0:fex 0<2047:=by decide+kernel
 have f1:fex 4607182418800017408<2047:=by decide+kernel
 have xk:Hid (∀ w1,G w w1→_):=fun w1 g=>qbU w1 0 0 4607182418800017408 0 0 4607182418800017408 (hT.G g) (by decide) (by decide) (by decide) (by decide) (by decide) (by decide)
 have LZ:Hid (∀ w1,G w w1→_):=fun w1 g=>q9i w1 0 0 4607182418800017408 0 0 4607182418800017408 4607182418800017408 4607182418800017408 (hT.G g) (by decide) (by decide) (by decide) (by decide) (by decide) (by decide) (by decide) (by decide)
 rw[q9o] at xk
 rw[q8q] at LZ
 have Px:Hid (∀ w1 v,G w w1→PSl w1 v five→_):=fun w1 v g h=>qaT w1 v five (hT.G g) h qar (by decide) (by decide) q8X
 have FL:Hid (∀ w1 v u,PSl w1 v _→PSl w1 u _→_):=fun w1 v u h1 h2=>q3I w1 v u [(0,0),(4611686018427387904,0),(0,4611686018427387904)] [(0,0),(4611686018427387904,0),(0,4611686018427387904)] rfl q83 h1 h2 (by decide)
 have xc:Hid (FinL [(0,0),(4607182418800017408,0),(0,4607182418800017408)]):=by
  intro i hi
  have:i=0∨i=1∨i=2:=by simp at hi;omega
  rcases this with rfl|rfl|rfl<;>exact⟨by first|exact f0|exact f1,by first|exact f0|exact f1⟩
 have wJ:Hid (FinL [(0,0),(4607182418800017408,0),(0,4607182418800017408),(4607182418800017408,4607182418800017408)]):=by
  intro i hi
  have:i=0∨i=1∨i=2∨i=3:=by simp at hi;omega
  rcases this with rfl|rfl|rfl|rfl<;>exact⟨by first|exact f0|exact f1,by first|exact f0|exact f1⟩
 clear hT f0 f1
 go_enter Tryz.func5,Tryz.ntmps5
 have hg:=G.refl w
 go_wp2_with (go_at_call 23;refine Calls.mono (P:=Tryz.prog) (pt_c _ _ _) ?_;rintro e wx ⟨rfl,gx⟩;replace hg:=G.trans hg gx;clear gx)
 refine Calls.mono (P:=Tryz.prog) (xk.out _ hg) ?_
 intro e w1 hs
 obtain⟨c,a,t,rfl,g1,hv,ht⟩:=hs
 obtain⟨rfl,rfl⟩:=q5P hv xc.out
 rw[if_pos rfl] at ht
 subst ht
 replace hg:=G.trans hg g1
 have R1:Hid (Rec (w1.alloc (.cells #[.int .i64 0,.int .i64 0] 26)) w1.heap.size [.int .i64 0,.int .i64 0]):=Rec.new2 _ _ _ _
 replace hg:=hg.alloc (.cells #[.int .i64 0,.int .i64 0] 26)
 clear g1 hv xk xc
 go_wp2_with fail
 generalize w1.alloc (.cells #[.int .i64 0,.int .i64 0] 26)=w2 at *
 generalize w1.heap.size=b1 at *
 have hg2:=G.refl w2
 refine Calls.mono (P:=Tryz.prog) (pt_c _ _ _) ?_
 rintro e wx ⟨rfl,gx⟩
 replace hg:=G.trans hg gx
 replace hg2:=G.trans hg2 gx
 clear gx
 go_wp2_with (go_at_call 23;refine Calls.mono (P:=Tryz.prog) (pt_c _ _ _) ?_;rintro e wx ⟨rfl,gx⟩;replace hg:=G.trans hg gx;replace hg2:=G.trans hg2 gx;clear gx)
 refine Calls.mono (P:=Tryz.prog) (LZ.out _ hg) ?_
 intro e w3 hs
 obtain⟨c,a,t,rfl,g1,hv,ht⟩:=hs
 obtain⟨rfl,rfl⟩:=q5P hv wJ.out
 rw[if_pos rfl] at ht
 subst ht
 replace hg:=G.trans hg g1
 replace hg2:=G.trans hg2 g1
 have R3:Hid (Rec (w3.alloc (.cells #[.int .i64 0,.int .i64 0] 26)) w3.heap.size [.int .i64 0,.int .i64 0]):=Rec.new2 _ _ _ _
 replace hg:=hg.alloc (.cells #[.int .i64 0,.int .i64 0] 26)
 replace hg2:=hg2.alloc (.cells #[.int .i64 0,.int .i64 0] 26)
 replace R1:Hid (Rec _ b1 [.int .i64 0,.int .i64 0]):=Rec.G R1.out hg2
 clear g1 hv LZ wJ hg2
 go_wp2_with fail
 generalize w3.alloc (.cells #[.int .i64 0,.int .i64 0] 26)=w4 at *
 generalize w3.heap.size=b3 at *
 have hg2:=G.refl w4
 refine Calls.mono (P:=Tryz.prog) (pt_c _ _ _) ?_
 rintro e wx ⟨rfl,gx⟩
 replace hg:=G.trans hg gx
 replace hg2:=G.trans hg2 gx
 clear gx
 go_wp2_with (go_at_call 23;refine Calls.mono (P:=Tryz.prog) (pt_c _ _ _) ?_;rintro e wx ⟨rfl,gx⟩;replace hg:=G.trans hg gx;replace hg2:=G.trans hg2 gx;clear gx)
 have hN:Rec (wx.alloc (.cells #[.float .f64 4607182418800017408,.float .f64 4607182418800017408,.float .f64 0,.float .f64 0,.float .f64 4611686018427387904,.float .f64 0,.float .f64 4607182418800017408,.float .f64 0,.float .f64 0,.float .f64 4611686018427387904] 32)) wx.heap.size (pl five):=Rec.new wx (pl five) 32
 have Fu:PSl (wx.alloc (.cells #[.float .f64 4607182418800017408,.float .f64 4607182418800017408,.float .f64 0,.float .f64 0,.float .f64 4611686018427387904,.float .f64 0,.float .f64 4607182418800017408,.float .f64 0,.float .f64 0,.float .f64 4611686018427387904] 32)) (.slice (some ⟨wx.heap.size,0,none⟩) 5 5) five:=q8i hN
 replace hg:=hg.alloc (.cells #[.float .f64 4607182418800017408,.float .f64 4607182418800017408,.float .f64 0,.float .f64 0,.float .f64 4611686018427387904,.float .f64 0,.float .f64 4607182418800017408,.float .f64 0,.float .f64 0,.float .f64 4611686018427387904] 32)
 replace hg2:=hg2.alloc (.cells #[.float .f64 4607182418800017408,.float .f64 4607182418800017408,.float .f64 0,.float .f64 0,.float .f64 4611686018427387904,.float .f64 0,.float .f64 4607182418800017408,.float .f64 0,.float .f64 0,.float .f64 4611686018427387904] 32)
 refine Calls.mono (P:=Tryz.prog) (Px.out _ _ hg Fu) ?_
 intro e w5 hs
 obtain⟨v,s,rfl,g1,hpm,hso,hO⟩:=hs
 obtain rfl:=q7H hpm hso
 rw[q6M] at hO
 obtain⟨pa,pc,rfl⟩:=hO.len
 replace hg:=G.trans hg g1
 replace hg2:=G.trans hg2 g1
 replace R1:Hid (Rec w5 b1 [.int .i64 0,.int .i64 0]):=Rec.G R1.out hg2
 replace R3:Hid (Rec w5 b3 [.int .i64 0,.int .i64 0]):=Rec.G R3.out hg2
 have qF:G w5 (w5.alloc (.cells #[.int .i64 0,.int .i64 0] 26)):=(G.refl w5).alloc _
 have hV:Hid (PSl (w5.alloc (.cells #[.int .i64 0,.int .i64 0] 26)) _ [(0,0),(4611686018427387904,0),(0,4611686018427387904)]):=hO.psl.G qF
 have R5:Hid (Rec (w5.alloc (.cells #[.int .i64 0,.int .i64 0] 26)) w5.heap.size [.int .i64 0,.int .i64 0]):=Rec.new2 _ _ _ _
 replace R1:Hid (Rec (w5.alloc (.cells #[.int .i64 0,.int .i64 0] 26)) b1 [.int .i64 0,.int .i64 0]):=Rec.G R1.out qF
 replace R3:Hid (Rec (w5.alloc (.cells #[.int .i64 0,.int .i64 0] 26)) b3 [.int .i64 0,.int .i64 0]):=Rec.G R3.out qF
 replace hg:=G.trans hg qF
 clear g1 hpm hso hO Fu hN hg2 qF Px
 obtain⟨a1,a2,-⟩:=R1.out.f2
 obtain⟨a3,a4,-⟩:=R3.out.f2
 have hlt:=R5.out.lt
 go_wp2_with fail
 clear a1 a2 a3 a4 hlt R1 R3 R5
 replace hV:=hV.out
 refine Calls.mono (P:=Tryz.prog) (pt_c _ _ _) ?_
 rintro e wx ⟨rfl,gx⟩
 replace hg:=G.trans hg gx
 replace hV:=PSl.G hV gx
 clear gx
 go_wp2_with (go_at_call 23;refine Calls.mono (P:=Tryz.prog) (pt_c _ _ _) ?_;rintro e wx ⟨rfl,gx⟩;replace hg:=G.trans hg gx;replace hV:=PSl.G hV gx;clear gx)
 have hN:Rec (wx.alloc (.cells #[.float .f64 0,.float .f64 0,.float .f64 4611686018427387904,.float .f64 0,.float .f64 0,.float .f64 4611686018427387904] 32)) wx.heap.size (pl [(0,0),(4611686018427387904,0),(0,4611686018427387904)]):=Rec.new wx (pl [(0,0),(4611686018427387904,0),(0,4611686018427387904)]) 32
 have Fu:PSl (wx.alloc (.cells #[.float .f64 0,.float .f64 0,.float .f64 4611686018427387904,.float .f64 0,.float .f64 0,.float .f64 4611686018427387904] 32)) (.slice (some ⟨wx.heap.size,0,none⟩) 3 3) [(0,0),(4611686018427387904,0),(0,4611686018427387904)]:=q8i hN
 replace hg:=hg.alloc (.cells #[.float .f64 0,.float .f64 0,.float .f64 4611686018427387904,.float .f64 0,.float .f64 0,.float .f64 4611686018427387904] 32)
 replace hV:=PSl.G hV ((G.refl wx).alloc (.cells #[.float .f64 0,.float .f64 0,.float .f64 4611686018427387904,.float .f64 0,.float .f64 0,.float .f64 4611686018427387904] 32))
 refine Calls.mono (P:=Tryz.prog) (FL.out _ _ _ hV Fu) ?_
 rintro e w7 ⟨rfl,g1⟩
 replace hg:=G.trans hg g1
 clear hV Fu hN g1 FL
 go_wp2_with fail
 go_ret
 exact⟨rfl,hg⟩
end Go.Proofs.YtdidnnbpdcanlaaGreatDoor.EN
