/- What is proved here: package geom's bent (the way along points without those where it doesn't turn left), over this seat's translation. -/
import Derived.Test.YtljkfjjchkehaaaGreatDoorQ31
import Derived.Test.YtljkfjjchkehaaaGreatDoorQ32
namespace Go.Proofs.YtljkfjjchkehaaaGreatDoor.EN
open Go.ChangeShapes Go.WideShapes Go.ChangeAt Go.RowKit
attribute [local go_sem] q0h
/-- How the way from a over b to p turns. -/
def q7a (a b p:Nat×Nat):Int:=(q2C a.1 a.2 b.1 b.2 p.1 p.2).sign
/-- The last points of a way (the last one ahead) that stay where p comes next. -/
def popR (p:Nat×Nat):List (Nat×Nat)→List (Nat×Nat)
 |b::a::r=>if q7a a b p=1 then b::a::r else popR p (a::r)
 |r=>r
def q0E (r l:List (Nat×Nat)):List (Nat×Nat):=l.foldl (fun r p=>p::popR p r) r
/-- A point of two finite floats. -/
def PtOk (p:Nat×Nat):Prop:=p.1<2^64∧p.2<2^64∧FinP p
theorem q4y {p:Nat×Nat}:∀ {r:List (Nat×Nat)},(popR p r).length≤r.length
 |[]=>Nat.le_refl _
 |[_]=>Nat.le_refl _
 |b::a::r=>by
  unfold popR
  split
  ·exact Nat.le_refl _
  ·exact Nat.le_succ_of_le (q4y (r:=a::r))
theorem q8t {p a b:Nat×Nat} {r:List (Nat×Nat)} (h:q7a a b p≠1):popR p (b::a::r)=popR p (a::r):=by
 rw[popR,if_neg h]
theorem q63 {p a b:Nat×Nat} {r:List (Nat×Nat)} (h:q7a a b p=1):popR p (b::a::r)=b::a::r:=by
 rw[popR,if_pos h]
theorem q3q (b:Nat×Nat) (r:List (Nat×Nat)):(b::r).reverse.getD r.length (0,0)=b:=by
 rw[List.reverse_cons,List.getD_eq_getElem?_getD,List.getElem?_append_right (by simp)]
 simp
theorem q6y (b a:Nat×Nat) (r:List (Nat×Nat)):(b::a::r).reverse.getD r.length (0,0)=a:=by
 rw[List.reverse_cons,List.getD_eq_getElem?_getD,List.getElem?_append_left (by simp),← List.getD_eq_getElem?_getD,q3q]
theorem q79 (b:Nat×Nat) (r:List (Nat×Nat)):(b::r).reverse.take r.length=r.reverse:=by
 rw[List.reverse_cons]
 exact List.take_left' (by simp)
def lenS:Value→Nat
 | .slice _ n _=>n
 |_=>0
def q9v (w:World) (base:Nat) (l:List (Nat×Nat)) (e:Ending) (w':World):Prop:=∃ v,e= .returned v∧G w w'∧POwn w' base v l
set_option maxHeartbeats 2000000 in
set_option maxRecDepth 10000 in
theorem q7T (w:World) (v:Value) (l:List (Nat×Nat)) (hT:Tab w) (h:PSl w v l) (hl:∀ p∈l,PtOk p) (hn:l.length≤1000000):Calls Tryz.prog 118 #[v] w (q9v w w.heap.size (q0E [] l).reverse):=by
 obtain⟨pa,ca,rfl,-,hrow⟩:=h
 have HR:Hid _:=hrow
 have HL:Hid _:=hl
 have HT:Hid (Tab w):=hT
 obtain⟨n,hn'⟩:∃ n,n=l.length:=⟨_,rfl⟩
 rw[← hn'] at hn ⊢
 have HN:Hid (n=l.length):=hn'
 clear hrow hl hn' hT
 go_enter Tryz.func118,Tryz.ntmps118
 go_wp2_with fail
 go_loopw [3,8] (fun vl vk wr=>∃ (k:Nat) (r:List (Nat×Nat)),k≤n∧vk= .int .i64 k∧G w wr∧POwn wr w.heap.size vl r.reverse∧r=q0E [] (l.take k)∧r.length≤k∧(∀ q∈r,PtOk q)) (fun _ vk _=>n-(intOf vk).toNat)
 case atStart=>exact⟨0,[],Nat.zero_le _,rfl,G.refl _,q4B _ _,rfl,Nat.le_refl _,fun q hq=>by simp at hq⟩
 case round=>
  obtain⟨k,r,hk,rfl,hG,hO,hr,hrl,hrq⟩:=hrel
  have zG:Hid _:=hr
  have qF:Hid _:=hrq
  obtain⟨ga,gc,rfl⟩:=hO.len
  have HO:Hid (POwn wr w.heap.size (.slice ga r.reverse.length gc) r.reverse):=hO
  clear hr hrq hO
  by_cases hkn:k<n
  ·obtain⟨b1,o1,rfl,hB1,hx',hy'⟩:=HR.out k (by rw[← HN.out];exact hkn)
   have hx:=hG.cell (p:=⟨b1,o1+k*2,none⟩) hB1 hx'
   have hy:=hG.cell (p:=⟨b1,o1+k*2+1,none⟩) hB1 hy'
   have hpo:Hid (PtOk (l.getD k (0,0))):=HL.out _ (by
    have hkl:k<l.length:=by rw[← HN.out];exact hkn
    rw[List.getD_eq_getElem?_getD,List.getElem?_eq_getElem hkl]
    exact List.getElem_mem hkl)
   have htk:Hid (l.take (k+1)=l.take k++[l.getD k (0,0)]):=by
    show _=_
    have hkl:k<l.length:=by rw[← HN.out];exact hkn
    rw[List.take_succ_eq_append_getElem hkl,List.getD_eq_getElem?_getD,List.getElem?_eq_getElem hkl]
    rfl
   generalize l.getD k (0,0)=p at *
   obtain⟨px,py⟩:=p
   dsimp only at hx hy
   have RP:Hid (Rec (wr.alloc (.cells #[.float .f64 px,.float .f64 py] 66)) wr.heap.size [.float .f64 px,.float .f64 py]):=Rec.new2 wr _ _ _
   have hG1:G wr (wr.alloc (.cells #[.float .f64 px,.float .f64 py] 66)):=(G.refl wr).alloc _
   have fH:Hid (POwn _ w.heap.size _ r.reverse):=HO.out.G hG1
   have hsz:=hG.size
   clear hx' hy' hB1
   go_wp2_with fail
   have nk:Hid (G w (wr.alloc (.cells #[.float .f64 px,.float .f64 py] 66))):=G.trans hG hG1
   generalize wr.alloc (.cells #[.float .f64 px,.float .f64 py] 66)=w0 at *
   have hb0:=RP.out.lt
   have hbp:w.heap.size≤wr.heap.size:=hG.size
   generalize wr.heap.size=bp at *
   clear hG hsz HO hx hy hG1
   go_loopw [3] (fun vl wr2=>∃ r':List (Nat×Nat),POwn wr2 w.heap.size vl r'.reverse∧G w wr2∧Rec wr2 bp [.float .f64 px,.float .f64 py]∧popR (px,py) r'=popR (px,py) r∧r'.length≤r.length∧(∀ q∈r',q∈r)) (fun vl _=>lenS vl)
   case atStart=>exact⟨r,fH.out,nk.out,RP.out,rfl,Nat.le_refl _,fun q hq=>hq⟩
   case round=>
    obtain⟨r',hO2,hG2,wC,hp2,hl2,hq2⟩:=hrel
    have eZ:Hid _:=hp2
    have qG:Hid _:=hq2
    obtain⟨GR,zH,rfl⟩:=hO2.len
    have bS:Hid (POwn wr w.heap.size (.slice GR r'.reverse.length zH) r'.reverse):=hO2
    have zI:Hid _:=wC
    have hb2:=wC.lt
    clear hp2 hq2 hO2
    by_cases hle:r'.length≤1
    ·have iA:Hid (popR (px,py) r=r'):=by
      show _=_
      rw[← eZ.out]
      rcases r' with _|⟨b,_|⟨a,rs⟩⟩
      ·rfl
      ·rfl
      ·simp at hle
     obtain⟨m,hm⟩:∃ m,m=r'.length:=⟨_,rfl⟩
     have HM:Hid (m=r'.length):=hm
     rw[List.length_reverse,← hm] at bS ⊢
     rw[← hm] at hle hl2
     clear hm
     have hm:decide ((1:Int)<(m:Int))=false:=decide_eq_false (by omega)
     go_wp2_with fail
     refine q08 (by kernel_rfl) (by kernel_rfl) ?_
     intro W hW
     clear hW
     repeat (go_big_quiet_step (fail))
     refine wpQuiet_nil ?_
     intro w1 hw1
     have uS:=Rec.G zI.out hw1
     obtain⟨q0,q1,-⟩:=uS.f2
     have hO4:=(bS.out.G hw1).G ((G.refl w1).alloc (.cells #[.float .f64 px,.float .f64 py] 66))
     obtain⟨n0,n1,-⟩:=(Rec.new2 w1 (.float .f64 px) (.float .f64 py) 66).f2
     have hs1:=hw1.size
     have hs2:=hG2.size
     obtain⟨v',w2,hrun,kL,iH⟩:=q2f _ w.heap.size _ r'.reverse [(px,py)] hO4 (by simp;omega) ⟨w1.heap.size,0,none⟩ 1 1 rfl (fun j u hu=>by
      rcases j with _|_|j
      ·cases hu;exact n0
      ·cases hu;exact n1
      ·simp [pl] at hu) (by have:=HM.out;simp;omega) (by simp)
     have hg3:Hid (G w w2):=iH.g w (Nat.le_refl _) (G.trans (G.trans hG2 hw1) ((G.refl w1).alloc _))
     obtain⟨a5,c5,rfl⟩:=kL.len
     rw[show (r'.reverse++[(px,py)]).length=m+1 from by rw[HM.out];simp] at hrun kL
     have gV:Hid _:=kL
     clear uS hO4 n0 n1 iH kL
     go_wp2_with (at_builtin;refine q2R _ rfl (.tmp 37) (.tmp 39) 68 rfl _ _ rfl rfl hrun ?_)
     have hpk:(px,py)::r'=q0E [] (l.take (k+1)):=by
      rw[htk.out]
      unfold q0E
      rw[List.foldl_append]
      show _=(px,py)::popR (px,py) (q0E [] (l.take k))
      rw[← zG.out,iA.out]
     have hlr:((px,py)::r').length≤k+1:=by have:=HM.out;simp;omega
     have hrr:POwn w2 w.heap.size (.slice a5 (m+1) c5) ((px,py)::r').reverse:=by rw[List.reverse_cons];exact gV.out
     clear hrun gV
     refine⟨⟨k+1,(px,py)::r',hkn,rfl,hg3.out,hrr,hpk,hlr,fun q hq=> ?_⟩,?_⟩
     ·rcases List.mem_cons.1 hq with rfl|hq
      ·exact hpo.out
      ·exact qF.out q (qG.out q hq)
     ·show n-((k:Int)+1).toNat<n-(k:Int).toNat
      omega
    ·obtain⟨b,a,rs,rfl⟩:∃ b a rs,r'=b::a::rs:=by
      rcases r' with _|⟨b,_|⟨a,rs⟩⟩
      ·simp at hle
      ·simp at hle
      ·exact⟨b,a,rs,rfl⟩
     obtain⟨m,hm⟩:∃ m,m=rs.length:=⟨_,rfl⟩
     have HM:Hid (m+2=(b::a::rs).length):=by show _=_;rw[hm];rfl
     rw[show (b::a::rs).reverse.length=m+2 from by rw[List.length_reverse];exact HM.out.symm] at bS ⊢
     have hl3:m+2≤r.length:=by rw[HM.out];exact hl2
     rcases bS.out with ⟨e,-⟩|⟨g,cap,cur,e,h1,h2,h3,h4,h5,h6,h7⟩
     ·cases e
     injection e with e1 e2 e3
     subst e1 e3
     obtain⟨wD,wE⟩:=POwn.cellAt h2 h6 (i:=m) (by simp;omega)
     obtain⟨wF,wG⟩:=POwn.cellAt h2 h6 (i:=m+1) (by simp;omega)
     rw[hm,q6y,← hm] at wD wE
     rw[show m+1=(a::rs).length from by rw[hm];rfl,q3q,show (a::rs).length=m+1 from by rw[hm];rfl] at wF wG
     have hgl:=q1j h2
     obtain⟨D7,D8,zJ⟩:=qF.out a (qG.out a (by simp))
     obtain⟨D9,Da,zK⟩:=qF.out b (qG.out b (by simp))
     have iB:Hid (∀ p,_):=fun p=>q7D (gw wr p) a.1 a.2 b.1 b.2 px py (HT.out.G (G.trans hG2 (gw_G wr p))) D7 D8 D9 Da hpo.out.1 hpo.out.2.1 zJ.1 zJ.2 zK.1 zK.2 hpo.out.2.2.1 hpo.out.2.2.2
     obtain⟨t,ht⟩:∃ t,t=q7a a b (px,py):=⟨_,rfl⟩
     rw[show (q2C a.1 a.2 b.1 b.2 px py).sign=t from ht.symm] at iB
     have wH:Hid _:=ht
     have Db:=wC.f2.1
     have uT:=wC.f2.2.1
     have hcap:m+2≤zH:=by have:=HM.out;rw[List.length_reverse] at h3;omega
     clear hm hle h1 h2 h3 h4 h5 h6 h7 e2 D7 D8 zJ D9 Da zK ht hl2
     have hm1:decide ((1:Int)<(m:Int)+2)=true:=decide_eq_true (by omega)
     have hmb:m≤1000000:=by omega
     obtain⟨a1,a2⟩:=a
     obtain⟨b5,b6⟩:=b
     dsimp only at wD wE wF wG iB
     go_wp2_with fail
     refine q08 (by kernel_rfl) (by kernel_rfl) ?_
     intro W hW
     have q1:=q04 (w:=W) (a:=⟨g,m*2,none⟩) (x:= .float .f64 a1) (by rw[hW];exact hgl) (by rw[hW];exact wD)
     have q2:=q04 (w:=W) (a:=⟨g,m*2+1,none⟩) (x:= .float .f64 a2) (by rw[hW];exact hgl) (by rw[hW];exact wE)
     have q3:=q04 (w:=W) (a:=⟨g,(m+1)*2,none⟩) (x:= .float .f64 b5) (by rw[hW];exact hgl) (by rw[hW];exact wF)
     have q4:=q04 (w:=W) (a:=⟨g,(m+1)*2+1,none⟩) (x:= .float .f64 b6) (by rw[hW];exact hgl) (by rw[hW];exact wG)
     have q5:=q04 (w:=W) (a:=⟨bp,0,none⟩) (x:= .float .f64 px) (by rw[hW];exact hb2) (by rw[hW];exact Db)
     have q6:=q04 (w:=W) (a:=⟨bp,1,none⟩) (x:= .float .f64 py) (by rw[hW];exact hb2) (by rw[hW];exact uT)
     have zL:=iB
     rw[← hW] at zL
     clear hW iB wD wE wF wG Db uT
     repeat (go_big_quiet_step (first|(go_at_call 77;exact q1e (zL.out _))))
     refine wpQuiet_nil ?_
     clear q1 q2 q3 q4 q5 q6 zL
     intro w1 hw1
     by_cases ht1:t=1
     ·subst ht1
      have iA:Hid (popR (px,py) r=(b5,b6)::(a1,a2)::rs):=by
       show _=_
       rw[← eZ.out]
       exact q63 wH.out.symm
      clear wH hm1
      generalize (b5,b6)::(a1,a2)::rs=r' at eZ qG HM bS iA
      generalize m+2=m at HM bS hl3 hcap ⊢
      have hl2:=hl3
      have uS:=Rec.G zI.out hw1
      obtain⟨q0,q1,-⟩:=uS.f2
      have hO4:=(bS.out.G hw1).G ((G.refl w1).alloc (.cells #[.float .f64 px,.float .f64 py] 66))
      obtain⟨n0,n1,-⟩:=(Rec.new2 w1 (.float .f64 px) (.float .f64 py) 66).f2
      have hs1:=hw1.size
      have hs2:=hG2.size
      obtain⟨v',w2,hrun,kL,iH⟩:=q2f _ w.heap.size _ r'.reverse [(px,py)] hO4 (by simp;omega) ⟨w1.heap.size,0,none⟩ 1 1 rfl (fun j u hu=>by
       rcases j with _|_|j
       ·cases hu;exact n0
       ·cases hu;exact n1
       ·simp [pl] at hu) (by have:=HM.out;simp;omega) (by simp)
      have hg3:Hid (G w w2):=iH.g w (Nat.le_refl _) (G.trans (G.trans hG2 hw1) ((G.refl w1).alloc _))
      obtain⟨a5,c5,rfl⟩:=kL.len
      rw[show (r'.reverse++[(px,py)]).length=m+1 from by rw[HM.out];simp] at hrun kL
      have gV:Hid _:=kL
      clear uS hO4 n0 n1 iH kL
      go_wp2_with (at_builtin;refine q2R _ rfl (.tmp 37) (.tmp 39) 68 rfl _ _ rfl rfl hrun ?_)
      have hpk:(px,py)::r'=q0E [] (l.take (k+1)):=by
       rw[htk.out]
       unfold q0E
       rw[List.foldl_append]
       show _=(px,py)::popR (px,py) (q0E [] (l.take k))
       rw[← zG.out,iA.out]
      have hlr:((px,py)::r').length≤k+1:=by have:=HM.out;simp;omega
      have hrr:POwn w2 w.heap.size (.slice a5 (m+1) c5) ((px,py)::r').reverse:=by rw[List.reverse_cons];exact gV.out
      clear hrun gV
      refine⟨⟨k+1,(px,py)::r',hkn,rfl,hg3.out,hrr,hpk,hlr,fun q hq=> ?_⟩,?_⟩
      ·rcases List.mem_cons.1 hq with rfl|hq
       ·exact hpo.out
       ·exact qF.out q (qG.out q hq)
      ·show n-((k:Int)+1).toNat<n-(k:Int).toNat
       omega
     ·have iA:Hid (popR (px,py) ((a1,a2)::rs)=popR (px,py) r):=by
       show _=_
       rw[← eZ.out]
       exact(q8t (by rw[← wH.out];exact ht1)).symm
      have htb:(t != 1)=true:=by simpa using ht1
      have kS:Hid (POwn w1 w.heap.size (.slice (some ⟨g,0,none⟩) (m+1) zH) ((a1,a2)::rs).reverse):=by
       have h:=(bS.out.G hw1).cut (k:=((a1,a2)::rs).length) (by simp)
       rw[q79] at h
       have hm:=HM.out
       rw[show ((a1,a2)::rs).length=m+1 from by simp at hm ⊢;omega] at h
       exact h
      have uM:Hid (∀ q∈(a1,a2)::rs,q∈r):=fun q hq=>qG.out q (List.mem_cons_of_mem _ hq)
      have GU:Hid (((a1,a2)::rs).length≤r.length):=by
       have hm:=HM.out
       show _≤_
       simp at hm ⊢
       omega
      have hg2:=G.trans hG2 hw1
      have qF:=Rec.G zI.out hw1
      clear ht1 wH hm1
      go_wp2_with fail
      refine⟨⟨(a1,a2)::rs,kS.out,hg2,qF,iA.out,GU.out,uM.out⟩,?_⟩
      show m+1<m+2
      omega
  ·obtain rfl:k=n:=by omega
   have HF:Hid (r=q0E [] l):=by
    show r=_
    rw[zG.out,HN.out,List.take_length]
   clear hkn
   go_wp2_with fail
   go_ret
   exact⟨_,rfl,hG,by rw[← HF.out];exact HO.out⟩
end Go.Proofs.YtljkfjjchkehaaaGreatDoor.EN
