/- What is proved here: the reference's way round points, HullOf, over this seat's translation: what is told of it without a program.
What is proved here: the reference's HullOf, over this seat's translation. -/
import Derived.Test.YtdidnnbpdcanlaaGreatDoorC38
import Derived.Test.YtdidnnbpdcanlaaGreatDoorC43
import Derived.Test.YtdidnnbpdcanlaaGreatDoorC51
import Derived.Test.YtdidnnbpdcanlaaGreatDoorC37
namespace Go.Proofs.YtdidnnbpdcanlaaGreatDoor.EN
open Go.ChangeShapes Go.WideShapes Go.ChangeAt Go.RowKit
theorem q6N:∀ (l s:List (Nat×Nat)),(l.foldl addK s).length≤s.length+l.length:=by
 intro l
 induction l with
 |nil=>intro s;exact Nat.le_refl _
 |cons p l ih=>
  intro s
  have h:=ih (addK s p)
  have k:(addK s p).length≤s.length+1:=by
   unfold addK
   split<;>simp
  show (l.foldl addK (addK s p)).length≤_
  simp only[List.length_cons]
  omega
theorem q6o {l:List (Nat×Nat)} {k:Nat} (h:k<l.length):(l.take (k+1)).foldl addK []=addK ((l.take k).foldl addK []) (l.getD k (0,0)):=by
 rw[q0W h,List.foldl_append]
 rfl
theorem q94 {s:List (Nat×Nat)} {j:Nat} (f:Nat×Nat→Bool) (h:j<s.length):(s.take (j+1)).any f=((s.take j).any f||f (s.getD j (0,0))):=by
 rw[q0W h,List.any_append]
 simp
theorem q7j {s:List (Nat×Nat)} {j:Nat} (a:Int×Int) (h:j<s.length):((s.take (j+1)).map z2).foldl (Hull.step a) none=Hull.step a (((s.take j).map z2).foldl (Hull.step a) none) (z2 (s.getD j (0,0))):=by
 rw[q0W h,List.map_append,List.foldl_append]
 rfl
theorem q7B {a q:Int×Int} (o:Option (Int×Int)) (h:q=a):Hull.step a o q=o:=by
 unfold Hull.step
 rw[if_pos h]
theorem q4h {a q:Int×Int} (h:q≠a):Hull.step a none q=some q:=by
 unfold Hull.step
 rw[if_neg h]
theorem q2n {a n q:Int×Int} (h:q≠a) (k:Hull.ori a n q<0∨(Hull.ori a n q=0∧Hull.dist a n<Hull.dist a q)):Hull.step a (some n) q=some q:=by
 unfold Hull.step
 rw[if_neg h]
 show (if _ then _ else _)=_
 rw[if_pos k]
theorem q1S {a n q:Int×Int} (h:q≠a) (k:¬ (Hull.ori a n q<0∨(Hull.ori a n q=0∧Hull.dist a n<Hull.dist a q))):Hull.step a (some n) q=some n:=by
 unfold Hull.step
 rw[if_neg h]
 show (if _ then _ else _)=_
 rw[if_neg k]
/-- From each corner the way goes to the next one. -/
theorem qaP {p:Int×Int} {s H:List (Int×Int)} (hs:∀ q∈p::H,q∈s) (hP:Hull.Path s (p::H++[p])) (hp:p∉H) {i:Nat} {a:Int×Int} (h:(p::H)[i]? =some a):
  ∃ b,s.foldl (Hull.step a) none=some b∧((b=p∧i+1=(p::H).length)∨(b≠p∧(p::H)[i+1]? =some b)):=by
 obtain⟨hi,e⟩:=List.getElem?_eq_some_iff.1 h
 have hw:=Hull.wrap_next hs hP i hi
 rw[e] at hw
 refine⟨_,hw,?_⟩
 by_cases hj:i+1<(p::H).length
 ·refine Or.inr ?_
  have e1:(p::H++[p])[i+1]'(by simp at hi ⊢;omega)=(p::H)[i+1]'hj:=List.getElem_append_left hj
  rw[e1]
  refine⟨fun e2=> ?_,List.getElem?_eq_getElem hj⟩
  rw[List.getElem_cons_succ] at e2
  have hm:H[i]'(by simpa using hj)∈H:=List.getElem_mem _
  rw[e2] at hm
  exact hp hm
 ·refine Or.inl ⟨?_,by omega⟩
  have h1:i+1=(p::H).length:=by omega
  simp only[h1]
  exact List.getElem_concat_length rfl _
/-- What is known of the corners that HullOf looks for. -/
structure Corners (s:List (Nat×Nat)) (p:Nat×Nat) (C:List (Int×Int)):Prop where
 hull:Hull.hull (s.map z2)=C
 first:C[0]? =some (z2 p)
 next:∀ i a,C[i]? =some a→∃ b,(s.map z2).foldl (Hull.step a) none=some b∧((b=z2 p∧i+1=C.length)∨(b≠z2 p∧C[i+1]? =some b))
theorem q6I {s:List (Nat×Nat)} (hs:q0y s) (hd:(s.map z2).Nodup) (h3:3≤s.length):∃ C,Corners s (s.getD 0 (0,0)) C:=by
 match s,hs,hd,h3 with
 |p::q::l,hs,hd,h3=>
  have hl:=q4v hs hd
  rw[List.map_cons] at hl
  obtain⟨H,e,-,hp,hm,hP⟩:=Hull.hull_sides hl (by simp)
  refine⟨z2 p::H,by rw[List.map_cons];exact e,rfl,fun i a h=> ?_⟩
  exact qaP (fun q hq=>by
   rcases List.mem_cons.1 hq with rfl|hq
   ·simp
   ·exact hm q hq) hP hp h
/-- HullOf's answer. -/
def q8b (w:World) (l:List (Nat×Nat)) (e:Ending) (w':World):Prop:=∃ v s r,e= .returned v∧G w w'∧POwn w' w.heap.size v r∧s.Perm (l.foldl addK [])∧q0y s∧r.map z2=(if s.length<3 then s.map z2 else Hull.hull (s.map z2))∧∀ q∈r,FinP q
attribute [local go_sem] q0d
theorem q3P {l:List (Nat×Nat)} {k:Nat} (h:k<l.length):l.getD k (0,0)∈l:=by
 rw[List.getD_eq_getElem?_getD,List.getElem?_eq_getElem h]
 exact List.getElem_mem h
theorem POwn.some {w:World} {base m c:Nat} {ga:Option Addr} {s:List (Nat×Nat)} (h:POwn w base (.slice ga m c) s) (hs:s≠[]):∃ g,ga=some ⟨g,0,none⟩:=by
 rcases h with ⟨-,e⟩|⟨g,cap,cur,e,-⟩
 ·exact absurd e hs
 ·injection e with e1
  exact⟨g,e1⟩
theorem qaA:PtOk (0,0):=⟨Nat.two_pow_pos _,Nat.two_pow_pos _,fin0⟩
theorem q43 {p q:Nat×Nat} (hp:FinP p) (hq:FinP q) (h:q1h p q=false):z2 p≠z2 q:=fun e=>by
 rw[(q1G hp hq).2 e] at h
 cases h
theorem q5Z (s:List (Nat×Nat)):(q2r s).length≤2*s.length:=by
 have h1:=q1U (r:=[]) (l:=s)
 have h2:=q1U (r:=[]) (l:=s.reverse)
 unfold q2r
 simp at *
 omega
set_option maxHeartbeats 4000000 in
set_option maxRecDepth 20000 in
theorem q9q (w:World) (v:Value) (l:List (Nat×Nat)) (h:PSl w v l) (hl:∀ p∈l,PtOk p) (hn:l.length≤60):Calls Tryz.prog 7 #[v] w (q8b w l):=by
 obtain⟨pa,ca,rfl,-,hrow⟩:=h
 have HR:Hid _:=hrow
 have HL:Hid (∀ p∈l,PtOk p):=hl
 obtain⟨n,hn'⟩:∃ n,n=l.length:=⟨_,rfl⟩
 rw[← hn'] at hn ⊢
 have HN:Hid (n=l.length):=hn'
 clear hrow hl hn'
 go_enter Tryz.func7,Tryz.ntmps7
 go_wp2_with fail
 obtain⟨w0,aL,g0,hz0,R0⟩:=q0B w [.slice none 0 0] 22
 rw[aL]
 clear aL
 obtain⟨bS,hbS⟩:∃ bS,bS=w.heap.size:=⟨_,rfl⟩
 rw[← hbS] at R0 ⊢
 have tZ:Hid (bS=w.heap.size):=hbS
 clear hbS hz0
 go_loopw [19] (fun vk wr=>∃ (k:Nat) (vs:Value) (s:List (Nat×Nat)),k≤n∧vk= .int .i64 k∧G w wr∧Rec wr bS [vs]∧POwn wr (bS+1) vs s∧s=(l.take k).foldl addK []) (fun vk _=>n-(intOf vk).toNat)
 case atStart=>exact⟨0,_,[],Nat.zero_le _,rfl,g0,R0.out,q2m _ _,rfl⟩
 case round=>
  obtain⟨k,vs,s,hk,rfl,hG,hRs,hO,hs⟩:=hrel
  have hsk:s.length≤k:=by
   rw[hs]
   have:=q6N (l.take k) []
   simp at this
   omega
  have HS:Hid (s=(l.take k).foldl addK []):=hs
  have vG:Hid (Rec wr bS [vs]):=hRs
  obtain⟨ga,gc,rfl⟩:=hO.len
  obtain⟨m,hm⟩:∃ m,m=s.length:=⟨_,rfl⟩
  rw[← hm] at vG hO hsk
  have HM:Hid (m=s.length):=hm
  have HO:Hid (POwn wr (bS+1) (.slice ga m gc) s):=hO
  have HG:Hid (G w wr):=hG
  clear hs hRs hO hm R0 g0
  by_cases hkn:k<n
  ·obtain⟨b1,o1,rfl,hB1,hx',hy'⟩:=HR.out k (by rw[← HN.out];exact hkn)
   have hx:=hG.cell (p:=⟨b1,o1+k*2,none⟩) hB1 hx'
   have hy:=hG.cell (p:=⟨b1,o1+k*2+1,none⟩) hB1 hy'
   have hkl:k<l.length:=by rw[← HN.out];exact hkn
   have um:Hid ((l.take (k+1)).foldl addK []=addK s (l.getD k (0,0))):=by show _=_;rw[q6o hkl,HS.out]
   generalize l.getD k (0,0)=p at *
   obtain⟨px,py⟩:=p
   dsimp only at hx hy
   have RP:Hid (Rec (wr.alloc (.cells #[.float .f64 px,.float .f64 py] 32)) wr.heap.size [.float .f64 px,.float .f64 py]):=Rec.new2 wr _ _ _
   have hG1:G wr (wr.alloc (.cells #[.float .f64 px,.float .f64 py] 32)):=(G.refl wr).alloc _
   have lJ:Hid (POwn (wr.alloc (.cells #[.float .f64 px,.float .f64 py] 32)) (bS+1) (.slice ga m gc) s):=HO.out.G hG1
   have HR1:Hid (Rec (wr.alloc (.cells #[.float .f64 px,.float .f64 py] 32)) bS [.slice ga m gc]):=Rec.G vG.out hG1
   have tJ:Hid (G w (wr.alloc (.cells #[.float .f64 px,.float .f64 py] 32))):=G.trans hG hG1
   have hsb:=vG.out.lt
   have sG:=Rec.f1 (Rec.G HR1.out (G.refl _))
   have vH:=sG.1
   have vI:=sG.2
   clear sG
   clear hx' hy' hB1 hkl
   go_wp2_with fail
   clear vH vI
   generalize wr.alloc (.cells #[.float .f64 px,.float .f64 py] 32)=w0 at *
   have hb0:=RP.out.lt
   generalize wr.heap.size=bp at *
   clear hG HO vG HG hx hy hG1
   go_loopw [6,25] (fun vb vj wr2=>∃ j:Nat,j≤m∧vj= .int .i64 j∧vb= .bool ((s.take j).any fun q=>q1h (px,py) q)∧G w0 wr2) (fun _ vj _=>m-(intOf vj).toNat)
   case atStart=>exact⟨0,Nat.zero_le _,rfl,rfl,G.refl _⟩
   case round=>
    obtain⟨j,hj,rfl,rfl,hG2⟩:=hrel
    obtain⟨K,hK⟩:∃ K,K=(s.take j).any fun q=>q1h (px,py) q:=⟨_,rfl⟩
    rw[← hK]
    have HK:Hid (K=(s.take j).any fun q=>q1h (px,py) q):=hK
    clear hK
    have O4:Hid (Rec wr bp [.float .f64 px,.float .f64 py]):=Rec.G RP.out hG2
    have hsw:=hG2.size
    by_cases hjm:j<m
    ·have hjl:j<s.length:=by rw[← HM.out];exact hjm
     obtain⟨g,rfl⟩:=lJ.out.some (by rintro rfl;simp at hjl)
     obtain⟨⟨hx2,hy2⟩,-,-,hgl,-⟩:=(lJ.out.G hG2).at hjl
     have HA:Hid ((s.take (j+1)).any (fun q=>q1h (px,py) q)=(K||q1h (px,py) (s.getD j (0,0)))):=by show _=_;rw[q94 _ hjl,HK.out]
     generalize s.getD j (0,0)=q at *
     obtain⟨qx,qy⟩:=q
     dsimp only at hx2 hy2
     have gG:Hid (q1h (px,py) (qx,qy)=((FloatKind.f64.format.order px qx==some .eq)&&(FloatKind.f64.format.order py qy==some .eq))):=rfl
     have EI:Hid (Rec (wr.alloc (.cells #[.float .f64 qx,.float .f64 qy] 32)) wr.heap.size [.float .f64 qx,.float .f64 qy]):=Rec.new2 wr _ _ _
     have he1:=fun w=>q0O px qx w
     have he2:=fun w=>q0O py qy w
     have gu:=Rec.f2 (Rec.G O4.out ((G.refl wr).alloc (.cells #[.float .f64 qx,.float .f64 qy] 32)))
     have vJ:=gu.1
     have vK:=gu.2.1
     have vL:=gu.2.2.1
     have vM:=gu.2.2.2
     clear gu
     have nH:=Rec.f2 (Rec.G EI.out (G.refl _))
     have Gg:=nH.1
     have Gh:=nH.2.1
     have Gi:=nH.2.2.1
     have Gj:=nH.2.2.2
     clear nH
     clear HK hjl
     generalize (FloatKind.f64.format.order px qx==some .eq)=t1 at gG he1
     generalize (FloatKind.f64.format.order py qy==some .eq)=t2 at gG he2
     cases K
     ·cases t1
      ·clear he2
       go_wp2_with fail
       refine⟨⟨j+1,hjm,by go_num,by rw[HA.out];simp [gG.out],G.trans hG2 ((G.refl wr).alloc _)⟩,?_⟩
       show m-((j:Int)+1).toNat<m-(j:Int).toNat
       omega
      ·cases t2
       ·skip
        go_wp2_with fail
        refine⟨⟨j+1,hjm,by go_num,by rw[HA.out];simp [gG.out],G.trans hG2 ((G.refl wr).alloc _)⟩,?_⟩
        show m-((j:Int)+1).toNat<m-(j:Int).toNat
        omega
       ·skip
        go_wp2_with fail
        refine⟨⟨j+1,hjm,by go_num,by rw[HA.out];simp [gG.out],G.trans hG2 ((G.refl wr).alloc _)⟩,?_⟩
        show m-((j:Int)+1).toNat<m-(j:Int).toNat
        omega
     ·skip
      go_wp2_with fail
      refine⟨⟨j+1,hjm,by go_num,by rw[HA.out];simp [gG.out],G.trans hG2 ((G.refl wr).alloc _)⟩,?_⟩
      show m-((j:Int)+1).toNat<m-(j:Int).toNat
      omega
    ·have e:m=j:=by omega
     subst e
     have hal:Hid ((s.any fun q=>q1h (px,py) q)=K):=by show _=_;rw[HK.out,List.take_of_length_le (by rw[← HM.out];exact Nat.le_refl _)]
     have dL:Hid (POwn wr (bS+1) (.slice ga m gc) s):=lJ.out.G hG2
     have HR2:Hid (Rec wr bS [.slice ga m gc]):=Rec.G HR1.out hG2
     clear HK
     cases K
     ·have La:Hid (addK s (px,py)=s++[(px,py)]):=by
       show _=_
       unfold addK
       rw[hal.out]
       rfl
      clear hal
      have hO4:=dL.out.G ((G.refl wr).alloc (.cells #[.float .f64 px,.float .f64 py] 32))
      obtain⟨n0,n1,-⟩:=(Rec.new2 wr (.float .f64 px) (.float .f64 py) 32).f2
      have hsz:=((G.refl wr).alloc (.cells #[.float .f64 px,.float .f64 py] 32)).size
      obtain⟨v',w2,hrun,ic,lg⟩:=q1f _ (bS+1) _ s [(px,py)] hO4 (by omega) ⟨wr.heap.size,0,none⟩ 1 1 rfl (fun j u hu=>by
       rcases j with _|_|j
       ·cases hu;exact n0
       ·cases hu;exact n1
       ·simp [pl] at hu) (by have:=HM.out;simp;omega) (by simp)
      obtain⟨a5,c5,rfl⟩:=ic.len
      rw[show (s++[(px,py)]).length=m+1 from by rw[HM.out];simp] at hrun ic
      have fF:Hid (POwn w2 (bS+1) (.slice a5 (m+1) c5) (s++[(px,py)])):=ic
      have O5:Hid (Rec w2 bS [.slice ga m gc]):=lg.r (Rec.G HR2.out ((G.refl wr).alloc _)) (hO4.own (Or.inl (Nat.lt_succ_self _)))
      have hg3:Hid (G w w2):=lg.g w (by have:=tZ.out;omega) (G.trans tJ.out (G.trans hG2 ((G.refl wr).alloc _)))
      clear hO4 n0 n1 ic lg hsz
      have gu:=Rec.f2 (Rec.G O4.out (G.refl _))
      have vJ:=gu.1
      have vK:=gu.2.1
      have vL:=gu.2.2.1
      have vM:=gu.2.2.2
      clear gu
      have sH:=Rec.f1 (Rec.G HR2.out (G.refl _))
      have Gl:=sH.1
      have Gm:=sH.2
      clear sH
      have sI:=Rec.f1 (Rec.G O5.out (G.refl _))
      have Gn:=sI.1
      have Gp:=sI.2
      clear sI
      go_wp2_with (at_builtin;refine q1W _ rfl (.tmp 38) (.tmp 40) 22 rfl _ _ rfl rfl hrun ?_)
      have pJ:POwn (World.setCell w2 ⟨bS,0,none⟩ (.slice a5 (m+1) c5)) (bS+1) (.slice a5 (m+1) c5) (s++[(px,py)]):=fF.out.oth (b:=bS) (fF.out.own (Or.inl (Nat.lt_succ_self _))) (fun k hk=>q0E hk)
      refine⟨⟨k+1,.slice a5 (m+1) c5,s++[(px,py)],hkn,by go_num,Rec.g1 hg3.out (by have:=tZ.out;omega),Rec.set1 O5.out,pJ,by rw[um.out,La.out]⟩,?_⟩
      show n-((k:Int)+1).toNat<n-(k:Int).toNat
      omega
     ·have La:Hid (addK s (px,py)=s):=by
       show _=_
       unfold addK
       rw[hal.out]
       rfl
      clear hal
      go_wp2_with fail
      refine⟨⟨k+1,.slice ga m gc,s,hkn,by go_num,G.trans tJ.out hG2,HR2.out,dL.out,by rw[um.out,La.out]⟩,?_⟩
      show n-((k:Int)+1).toNat<n-(k:Int).toNat
      omega
  ·have e:n=k:=by omega
   subst e
   have hs:s=l.foldl addK []:=by rw[HS.out,List.take_of_length_le (by rw[← HN.out];exact Nat.le_refl _)]
   obtain⟨k1,-,k3⟩:=q4L (l:=l) (fun p hp=>(HL.out p hp).2.2)
   rw[← hs] at k1 k3
   have HF:Hid (∀ p∈s,PtOk p):=fun p hp=>HL.out p (k3 p hp)
   have O6:Hid ((s.map z2).Nodup):=k1
   have O7:Hid (s=l.foldl addK []):=hs
   have O8:=vG.out.f1.1
   have O9:Hid _:=q57 wr (bS+1) bS (.slice ga m gc) s HO.out O8 (Nat.lt_succ_self _) vG.out.lt (fun p hp=>(HF.out p hp).2.2) (by rw[← HM.out];omega)
   clear hs k1 k3 O8 HS HR HL
   have sJ:=Rec.f1 (Rec.G vG.out (G.refl _))
   have vN:=sJ.1
   have vO:=sJ.2
   clear sJ
   go_wp2_with fail
   refine Calls.mono (P:=Tryz.prog) O9.out ?_
   rintro e w1 ⟨rfl,s',BB,hp',EJ,hon⟩
   have R1:Hid (Rec w1 bS [.slice ga m gc]):=hon.r vG.out (HO.out.own (Or.inl (Nat.lt_succ_self _)))
   have hg1:G w w1:=hon.g w (by have:=tZ.out;omega) HG.out
   have xw:Hid (m=s'.length):=by show _=_;rw[HM.out];exact hp'.length_eq.symm
   have EK:Hid (POwn w1 (bS+1) (.slice ga m gc) s'):=BB
   have EL:Hid (s'.Perm (l.foldl addK [])∧q0y s'):=⟨by rw[← O7.out];exact hp',EJ⟩
   have Lb:Hid (∀ p∈s',PtOk p):=fun p hp=>HF.out p (hp'.mem_iff.1 hp)
   have Lc:Hid ((s'.map z2).Nodup):=((hp'.map z2).nodup_iff).2 O6.out
   clear BB hp' EJ hon O9 vG HO HG HM HF O6 O7 vN vO hG
   have cB:=Rec.f1 (Rec.G R1.out (G.refl _))
   have eO:=cB.1
   have eT:=cB.2
   clear cB
   by_cases h3:m<3
   ·have Te:decide ((m:Int)<3)=true:=decide_eq_true (by omega)
    go_wp2_with fail
    go_ret
    exact⟨_,s',s',rfl,hg1,EK.out.base (by have:=tZ.out;omega),EL.out.1,EL.out.2,by rw[if_pos (by rw[← xw.out];exact h3)],fun q hq=>(Lb.out q hq).2.2⟩
   ·have Te:decide ((m:Int)<3)=false:=decide_eq_false (by omega)
    have hm0:0<s'.length:=by rw[← xw.out];omega
    have hmp:0<m:=by omega
    obtain⟨C,hC⟩:=q6I EL.out.2 Lc.out (by rw[← xw.out];omega)
    obtain⟨g,rfl⟩:=EK.out.some (by rintro rfl;simp at hm0)
    obtain⟨⟨hx0,hy0⟩,-,-,hgl,-⟩:=EK.out.at hm0
    have Ld:PtOk (s'.getD 0 (0,0)):=Lb.out _ (q3P hm0)
    rw[Nat.zero_mul] at hx0 hy0
    obtain⟨p0,hp0⟩:∃ p0,p0=s'.getD 0 (0,0):=⟨_,rfl⟩
    rw[← hp0] at hC hx0 hy0 Ld
    have Tf:Hid (p0=s'.getD 0 (0,0)):=hp0
    have HC:Hid (Corners s' p0 C):=hC
    have uj:Hid (PtOk p0):=Ld
    have FW:Hid (C.length≤200):=by show _≤_;rw[← hC.hull,← q5L,List.length_map];exact Nat.le_trans (q5Z s') (by rw[← xw.out];omega)
    have iE:Hid (¬ m<3):=h3
    clear hp0 hC Ld hm0 h3
    obtain⟨x0,y0⟩:=p0
    dsimp only at hx0 hy0
    have oH:Hid (Rec (w1.alloc (.cells #[.float .f64 x0,.float .f64 y0] 32)) w1.heap.size [.float .f64 x0,.float .f64 y0]):=Rec.new2 w1 _ _ _
    have Bt:Hid (G w1 (w1.alloc (.cells #[.float .f64 x0,.float .f64 y0] 32))):=(G.refl w1).alloc _
    go_wp2_with fail
    clear eO eT
    generalize w1.alloc (.cells #[.float .f64 x0,.float .f64 y0] 32)=wA at *
    obtain⟨bA,BA⟩:∃ bA,bA=w1.heap.size:=⟨_,rfl⟩
    rw[← BA] at oH ⊢
    have wX:Hid (bA=w1.heap.size):=BA
    clear BA
    have Tg:bS<wA.heap.size:=by have:=R1.out.lt;have:=oH.out.lt;have:=wX.out;omega
    go_loopw [10] (fun vo wr=>∃ (i:Nat) (o:List (Nat×Nat)) (ax ay:Nat),G w1 wr∧Rec wr bA [.float .f64 ax,.float .f64 ay]∧POwn wr (bA+1) vo o∧o.map z2=C.take i∧C[i]? =some (z2 (ax,ay))∧PtOk (ax,ay)∧(∀ q∈o,FinP q)∧i≤200) (fun vo _=>C.length-lenS vo)
    case atStart=>exact⟨0,[],x0,y0,Bt.out,oH.out,q2m _ _,rfl,HC.out.first,uj.out,(fun q hq=>nomatch hq),by omega⟩
    case round=>
     obtain⟨i,o,ax,ay,hG,hra,ho,Le,hci,Oa,hof,hi2⟩:=hrel
     have hic:i<C.length:=(List.getElem?_eq_some_iff.1 hci).1
     have hol:i=o.length:=by
      have:=congrArg List.length Le
      rw[List.length_map,List.length_take] at this
      omega
     have Ti:Hid (o.map z2=C.take i):=Le
     have Ob:Hid (C[i]? =some (z2 (ax,ay))):=hci
     have vP:Hid (PtOk (ax,ay)):=Oa
     have Tj:Hid (∀ q∈o,FinP q):=hof
     have Oc:Hid (i<C.length):=hic
     obtain⟨a6,c6,rfl⟩:=ho.len
     rw[← hol] at ho ⊢
     have Ck:Hid (i=o.length):=hol
     have HA:Hid (Rec wr bA [.float .f64 ax,.float .f64 ay]):=hra
     have Tk:=hG.size
     have hO4:=ho.G ((G.refl wr).alloc (.cells #[.float .f64 ax,.float .f64 ay] 32))
     obtain⟨n0,n1,-⟩:=(Rec.new2 wr (.float .f64 ax) (.float .f64 ay) 32).f2
     have hsz:=((G.refl wr).alloc (.cells #[.float .f64 ax,.float .f64 ay] 32)).size
     have iY:=hra.lt
     obtain⟨v',w2,hrun,ic,lg⟩:=q1f _ (bA+1) _ o [(ax,ay)] hO4 (by omega) ⟨wr.heap.size,0,none⟩ 1 1 rfl (fun j u hu=>by
      rcases j with _|_|j
      ·cases hu;exact n0
      ·cases hu;exact n1
      ·simp [pl] at hu) (by simp;omega) (by simp)
     obtain⟨a7,c7,rfl⟩:=ic.len
     rw[show (o++[(ax,ay)]).length=i+1 from by rw[Ck.out];simp] at hrun ic
     have fF:Hid (POwn w2 (bA+1) (.slice a7 (i+1) c7) (o++[(ax,ay)])):=ic
     have Gq:Hid (Rec w2 bA [.float .f64 ax,.float .f64 ay]):=lg.r (Rec.G HA.out ((G.refl wr).alloc _)) (hO4.own (Or.inl (Nat.lt_succ_self _)))
     have HG2:Hid (G w1 w2):=lg.g w1 (by have:=wX.out;omega) (G.trans hG ((G.refl wr).alloc _))
     have HS2:Hid (Rec w2 bS [.slice (some ⟨g,0,none⟩) m gc]):=Rec.G R1.out HG2.out
     have Bf:Hid (Rec wr bS [.slice (some ⟨g,0,none⟩) m gc]):=Rec.G R1.out hG
     have Ub:Hid (bA<w2.heap.size):=Gq.out.lt
     have Od:Hid (G w2 (w2.alloc (.cells #[.float .f64 0,.float .f64 0] 32))):=(G.refl w2).alloc _
     have EM:Hid (Rec (w2.alloc (.cells #[.float .f64 0,.float .f64 0] 32)) w2.heap.size [.float .f64 0,.float .f64 0]):=Rec.new2 w2 _ _ _
     clear hO4 n0 n1 ic lg hsz hra ho Le hci Oa hof hic hol hG iY
     have sK:=Rec.f2 (Rec.G HA.out (G.refl _))
     have A7:=sK.1
     have A8:=sK.2.1
     have A9:=sK.2.2.1
     have Aa:=sK.2.2.2
     clear sK
     have sM:=Rec.f1 (Rec.G HS2.out (Od.out))
     have vQ:=sM.1
     have vR:=sM.2
     clear sM
     go_wp2_with (at_builtin;refine q1W _ rfl (.tmp 54) (.tmp 56) 22 rfl _ _ rfl rfl hrun ?_)
     clear hrun A7 A8 A9 Aa vQ vR
     obtain⟨bN,hbN⟩:∃ bN,bN=w2.heap.size:=⟨_,rfl⟩
     rw[← hbN] at EM ⊢
     have mX:Hid (bN=w2.heap.size):=hbN
     clear hbN
     generalize w2.alloc (.cells #[.float .f64 0,.float .f64 0] 32)=w3 at *
     go_loopw [13,60] (fun vb vj wr3=>∃ (j nx ny:Nat) (b:Bool),j≤m∧vj= .int .i64 j∧vb= .bool b∧G w2 wr3∧Rec wr3 bN [.float .f64 nx,.float .f64 ny]∧PtOk (nx,ny)∧((s'.take j).map z2).foldl (Hull.step (z2 (ax,ay))) none=(if b=true then some (z2 (nx,ny)) else none)) (fun _ vj _=>m-(intOf vj).toNat)
     case atStart=>exact⟨0,0,0,false,Nat.zero_le _,rfl,rfl,Od.out,EM.out,qaA,rfl⟩
     case round=>
      obtain⟨j,nx,ny,b,hj,rfl,rfl,hG2,hrn,hpn,hfo⟩:=hrel
      have uk:Hid (Rec wr bN [.float .f64 nx,.float .f64 ny]):=hrn
      have oP:Hid (PtOk (nx,ny)):=hpn
      have vS:Hid (((s'.take j).map z2).foldl (Hull.step (z2 (ax,ay))) none=(if b=true then some (z2 (nx,ny)) else none)):=hfo
      have iZ:Hid (Rec wr bA [.float .f64 ax,.float .f64 ay]):=Rec.G Gq.out hG2
      have EO:Hid (Rec wr bS [.slice (some ⟨g,0,none⟩) m gc]):=Rec.G HS2.out hG2
      have hsw:=hG2.size
      clear hrn hpn hfo
      by_cases hjm:j<m
      ·have hjl:j<s'.length:=by rw[← xw.out];exact hjm
       obtain⟨⟨hx2,hy2⟩,-,-,Lf,-⟩:=((EK.out.G HG2.out).G hG2).at hjl
       have pG:Hid (PtOk (s'.getD j (0,0))):=Lb.out _ (q3P hjl)
       have sN:Hid (((s'.take (j+1)).map z2).foldl (Hull.step (z2 (ax,ay))) none=Hull.step (z2 (ax,ay)) (if b=true then some (z2 (nx,ny)) else none) (z2 (s'.getD j (0,0)))):=by show _=_;rw[q7j _ hjl,vS.out]
       generalize s'.getD j (0,0)=q at *
       obtain⟨qx,qy⟩:=q
       dsimp only at hx2 hy2
       have gG:Hid (q1h (qx,qy) (ax,ay)=((FloatKind.f64.format.order qx ax==some .eq)&&(FloatKind.f64.format.order qy ay==some .eq))):=rfl
       have EI:Hid (Rec (wr.alloc (.cells #[.float .f64 qx,.float .f64 qy] 32)) wr.heap.size [.float .f64 qx,.float .f64 qy]):=Rec.new2 wr _ _ _
       have pI:G wr (wr.alloc (.cells #[.float .f64 qx,.float .f64 qy] 32)):=(G.refl wr).alloc _
       have kV:Hid (∀ W,_):=fun W=>qb8 W ax ay nx ny qx qy vP.out.1 vP.out.2.1 oP.out.1 oP.out.2.1 pG.out.1 pG.out.2.1 vP.out.2.2.1 vP.out.2.2.2 oP.out.2.2.1 oP.out.2.2.2 pG.out.2.2.1 pG.out.2.2.2
       have Oe:Hid (∀ W,_):=fun W=>qcj W (ax,ay) (nx,ny) (qx,qy) vP.out oP.out pG.out
       have he1:=fun w=>q0O qx ax w
       have he2:=fun w=>q0O qy ay w
       have yG:=EI.out.f2
       have ES:=yG.1
       have ET:=yG.2.1
       have Lg:=(Rec.G iZ.out pI).f2
       have EU:=Lg.1
       have EW:=Lg.2.1
       have Lh:=(Rec.G uk.out pI).f2
       have EX:=Lh.1
       have EY:=Lh.2.1
       clear yG Lg Lh hjl vS
       generalize (FloatKind.f64.format.order qx ax==some .eq)=t1 at gG he1
       generalize (FloatKind.f64.format.order qy ay==some .eq)=t2 at gG he2
       cases t1
       ·clear he2
        have he2:=he1
        have iw:Hid (z2 (qx,qy)≠z2 (ax,ay)):=q43 pG.out.2.2 vP.out.2.2 (by rw[gG.out];rfl)
        clear gG
        cases b
        ·have HST:Hid (Hull.step (z2 (ax,ay)) (if false=true then some (z2 (nx,ny)) else none) (z2 (qx,qy))=some (z2 (qx,qy))):=q4h iw.out
         have jr:Hid (Rec (wr.alloc (.cells #[.float .f64 qx,.float .f64 qy] 32)) bN [.float .f64 nx,.float .f64 ny]):=Rec.G uk.out pI
         have jd:Hid (G w2 (wr.alloc (.cells #[.float .f64 qx,.float .f64 qy] 32))):=G.trans hG2 pI
         have aK:=Rec.f2 (Rec.G jr.out (G.refl _))
         have dG:=aK.1
         have dH:=aK.2.1
         have dI:=aK.2.2.1
         have dJ:=aK.2.2.2
         clear aK
         go_wp2_with fail
         refine⟨⟨j+1,qx,qy,true,hjm,by go_num,rfl,Rec.g2 jd.out (by have:=mX.out;omega),Rec.set2 jr.out,pG.out,by rw[sN.out,HST.out];rfl⟩,?_⟩
         show m-((j:Int)+1).toNat<m-(j:Int).toNat
         omega
        ·go_wp2_with fail
         refine Calls.mono (P:=Tryz.prog) (kV.out _) ?_
         rintro e w4 ⟨rfl,g4⟩
         have jr:Hid (Rec w4 bN [.float .f64 nx,.float .f64 ny]):=Rec.G uk.out (G.trans pI g4)
         have Li:Hid (Rec w4 bA [.float .f64 ax,.float .f64 ay]):=Rec.G iZ.out (G.trans pI g4)
         have sO:Hid (Rec w4 wr.heap.size [.float .f64 qx,.float .f64 qy]):=Rec.G EI.out g4
         have jd:Hid (G w2 w4):=G.trans hG2 (G.trans pI g4)
         have hlq:=sO.out.lt
         clear kV he1 he2 EU EW EX EY ES ET
         obtain⟨t,ht⟩:∃ t,t=(q2O ax ay nx ny qx qy).sign:=⟨_,rfl⟩
         rw[← ht]
         have HT:Hid (t=(Hull.ori (z2 (ax,ay)) (z2 (nx,ny)) (z2 (qx,qy))).sign):=ht
         clear ht
         have bZ:=Rec.f2 (Rec.G sO.out (G.refl _))
         have iK:=bZ.1
         have iL:=bZ.2.1
         have iM:=bZ.2.2.1
         have iN:=bZ.2.2.2
         clear bZ
         rcases Int.lt_trichotomy t 0 with h|h|h
         ·have htb:decide (t<0)=true:=decide_eq_true h
          have HST:Hid (Hull.step (z2 (ax,ay)) (if true=true then some (z2 (nx,ny)) else none) (z2 (qx,qy))=some (z2 (qx,qy))):=q2n iw.out (Or.inl (by
           have:=HT.out
           rw[this] at h
           exact Int.sign_neg_iff.1 h))
          clear h
          have aK:=Rec.f2 (Rec.G jr.out (G.refl _))
          have dG:=aK.1
          have dH:=aK.2.1
          have dI:=aK.2.2.1
          have dJ:=aK.2.2.2
          clear aK
          go_wp2_with fail
          refine⟨⟨j+1,qx,qy,true,hjm,by go_num,rfl,Rec.g2 jd.out (by have:=mX.out;omega),Rec.set2 jr.out,pG.out,by rw[sN.out,HST.out];rfl⟩,?_⟩
          show m-((j:Int)+1).toNat<m-(j:Int).toNat
          omega
         ·subst h
          have gy:=Rec.f2 (Rec.G Li.out (G.refl _))
          have mq:=gy.1
          have mr:=gy.2.1
          have mD:=gy.2.2.1
          have mE:=gy.2.2.2
          clear gy
          have aK:=Rec.f2 (Rec.G jr.out (G.refl _))
          have dG:=aK.1
          have dH:=aK.2.1
          have dI:=aK.2.2.1
          have dJ:=aK.2.2.2
          clear aK
          go_wp2_with fail
          refine Calls.mono (P:=Tryz.prog) (Oe.out _) ?_
          rintro e w5 ⟨rfl,g5⟩
          replace jr:Hid (Rec w5 bN [.float .f64 nx,.float .f64 ny]):=Rec.G jr.out g5
          replace sO:Hid (Rec w5 wr.heap.size [.float .f64 qx,.float .f64 qy]):=Rec.G sO.out g5
          replace jd:Hid (G w2 w5):=G.trans jd.out g5
          clear iK iL iM iN mq mr mD mE dG dH dI dJ
          obtain⟨F,hF⟩:∃ F,F=decide (Hull.dist (z2 (ax,ay)) (z2 (nx,ny))<Hull.dist (z2 (ax,ay)) (z2 (qx,qy))):=⟨_,rfl⟩
          rw[← hF]
          have uj:Hid (Hull.ori (z2 (ax,ay)) (z2 (nx,ny)) (z2 (qx,qy))=0):=Int.sign_eq_zero_iff_zero.1 HT.out.symm
          have bZ:=Rec.f2 (Rec.G sO.out (G.refl _))
          have iK:=bZ.1
          have iL:=bZ.2.1
          have iM:=bZ.2.2.1
          have iN:=bZ.2.2.2
          clear bZ
          cases F
          ·have HST:Hid (Hull.step (z2 (ax,ay)) (if true=true then some (z2 (nx,ny)) else none) (z2 (qx,qy))=some (z2 (nx,ny))):=q1S iw.out (by
            rintro(h1|⟨-,h1⟩)
            ·have:=uj.out;omega
            ·exact of_decide_eq_false hF.symm h1)
           clear hF
           go_wp2_with fail
           refine⟨⟨j+1,nx,ny,true,hjm,by go_num,rfl,jd.out,jr.out,oP.out,by rw[sN.out,HST.out];rfl⟩,?_⟩
           show m-((j:Int)+1).toNat<m-(j:Int).toNat
           omega
          ·have HST:Hid (Hull.step (z2 (ax,ay)) (if true=true then some (z2 (nx,ny)) else none) (z2 (qx,qy))=some (z2 (qx,qy))):=q2n iw.out (Or.inr ⟨uj.out,of_decide_eq_true hF.symm⟩)
           clear hF
           have aK:=Rec.f2 (Rec.G jr.out (G.refl _))
           have dG:=aK.1
           have dH:=aK.2.1
           have dI:=aK.2.2.1
           have dJ:=aK.2.2.2
           clear aK
           go_wp2_with fail
           refine⟨⟨j+1,qx,qy,true,hjm,by go_num,rfl,Rec.g2 jd.out (by have:=mX.out;omega),Rec.set2 jr.out,pG.out,by rw[sN.out,HST.out];rfl⟩,?_⟩
           show m-((j:Int)+1).toNat<m-(j:Int).toNat
           omega
         ·have htb:decide (t<0)=false:=decide_eq_false (by omega)
          have hte:(t==0)=false:=by simp;omega
          have HST:Hid (Hull.step (z2 (ax,ay)) (if true=true then some (z2 (nx,ny)) else none) (z2 (qx,qy))=some (z2 (nx,ny))):=q1S iw.out (by
           have:=HT.out
           rw[this] at h
           have:=Int.sign_pos_iff.1 h
           omega)
          clear h
          go_wp2_with fail
          refine⟨⟨j+1,nx,ny,true,hjm,by go_num,rfl,jd.out,jr.out,oP.out,by rw[sN.out,HST.out];rfl⟩,?_⟩
          show m-((j:Int)+1).toNat<m-(j:Int).toNat
          omega
       ·cases t2
        ·skip
         have iw:Hid (z2 (qx,qy)≠z2 (ax,ay)):=q43 pG.out.2.2 vP.out.2.2 (by rw[gG.out];rfl)
         clear gG
         cases b
         ·have HST:Hid (Hull.step (z2 (ax,ay)) (if false=true then some (z2 (nx,ny)) else none) (z2 (qx,qy))=some (z2 (qx,qy))):=q4h iw.out
          have jr:Hid (Rec (wr.alloc (.cells #[.float .f64 qx,.float .f64 qy] 32)) bN [.float .f64 nx,.float .f64 ny]):=Rec.G uk.out pI
          have jd:Hid (G w2 (wr.alloc (.cells #[.float .f64 qx,.float .f64 qy] 32))):=G.trans hG2 pI
          have aK:=Rec.f2 (Rec.G jr.out (G.refl _))
          have dG:=aK.1
          have dH:=aK.2.1
          have dI:=aK.2.2.1
          have dJ:=aK.2.2.2
          clear aK
          go_wp2_with fail
          refine⟨⟨j+1,qx,qy,true,hjm,by go_num,rfl,Rec.g2 jd.out (by have:=mX.out;omega),Rec.set2 jr.out,pG.out,by rw[sN.out,HST.out];rfl⟩,?_⟩
          show m-((j:Int)+1).toNat<m-(j:Int).toNat
          omega
         ·go_wp2_with fail
          refine Calls.mono (P:=Tryz.prog) (kV.out _) ?_
          rintro e w4 ⟨rfl,g4⟩
          have jr:Hid (Rec w4 bN [.float .f64 nx,.float .f64 ny]):=Rec.G uk.out (G.trans pI g4)
          have Li:Hid (Rec w4 bA [.float .f64 ax,.float .f64 ay]):=Rec.G iZ.out (G.trans pI g4)
          have sO:Hid (Rec w4 wr.heap.size [.float .f64 qx,.float .f64 qy]):=Rec.G EI.out g4
          have jd:Hid (G w2 w4):=G.trans hG2 (G.trans pI g4)
          have hlq:=sO.out.lt
          clear kV he1 he2 EU EW EX EY ES ET
          obtain⟨t,ht⟩:∃ t,t=(q2O ax ay nx ny qx qy).sign:=⟨_,rfl⟩
          rw[← ht]
          have HT:Hid (t=(Hull.ori (z2 (ax,ay)) (z2 (nx,ny)) (z2 (qx,qy))).sign):=ht
          clear ht
          have bZ:=Rec.f2 (Rec.G sO.out (G.refl _))
          have iK:=bZ.1
          have iL:=bZ.2.1
          have iM:=bZ.2.2.1
          have iN:=bZ.2.2.2
          clear bZ
          rcases Int.lt_trichotomy t 0 with h|h|h
          ·have htb:decide (t<0)=true:=decide_eq_true h
           have HST:Hid (Hull.step (z2 (ax,ay)) (if true=true then some (z2 (nx,ny)) else none) (z2 (qx,qy))=some (z2 (qx,qy))):=q2n iw.out (Or.inl (by
            have:=HT.out
            rw[this] at h
            exact Int.sign_neg_iff.1 h))
           clear h
           have aK:=Rec.f2 (Rec.G jr.out (G.refl _))
           have dG:=aK.1
           have dH:=aK.2.1
           have dI:=aK.2.2.1
           have dJ:=aK.2.2.2
           clear aK
           go_wp2_with fail
           refine⟨⟨j+1,qx,qy,true,hjm,by go_num,rfl,Rec.g2 jd.out (by have:=mX.out;omega),Rec.set2 jr.out,pG.out,by rw[sN.out,HST.out];rfl⟩,?_⟩
           show m-((j:Int)+1).toNat<m-(j:Int).toNat
           omega
          ·subst h
           have gy:=Rec.f2 (Rec.G Li.out (G.refl _))
           have mq:=gy.1
           have mr:=gy.2.1
           have mD:=gy.2.2.1
           have mE:=gy.2.2.2
           clear gy
           have aK:=Rec.f2 (Rec.G jr.out (G.refl _))
           have dG:=aK.1
           have dH:=aK.2.1
           have dI:=aK.2.2.1
           have dJ:=aK.2.2.2
           clear aK
           go_wp2_with fail
           refine Calls.mono (P:=Tryz.prog) (Oe.out _) ?_
           rintro e w5 ⟨rfl,g5⟩
           replace jr:Hid (Rec w5 bN [.float .f64 nx,.float .f64 ny]):=Rec.G jr.out g5
           replace sO:Hid (Rec w5 wr.heap.size [.float .f64 qx,.float .f64 qy]):=Rec.G sO.out g5
           replace jd:Hid (G w2 w5):=G.trans jd.out g5
           clear iK iL iM iN mq mr mD mE dG dH dI dJ
           obtain⟨F,hF⟩:∃ F,F=decide (Hull.dist (z2 (ax,ay)) (z2 (nx,ny))<Hull.dist (z2 (ax,ay)) (z2 (qx,qy))):=⟨_,rfl⟩
           rw[← hF]
           have uj:Hid (Hull.ori (z2 (ax,ay)) (z2 (nx,ny)) (z2 (qx,qy))=0):=Int.sign_eq_zero_iff_zero.1 HT.out.symm
           have bZ:=Rec.f2 (Rec.G sO.out (G.refl _))
           have iK:=bZ.1
           have iL:=bZ.2.1
           have iM:=bZ.2.2.1
           have iN:=bZ.2.2.2
           clear bZ
           cases F
           ·have HST:Hid (Hull.step (z2 (ax,ay)) (if true=true then some (z2 (nx,ny)) else none) (z2 (qx,qy))=some (z2 (nx,ny))):=q1S iw.out (by
             rintro(h1|⟨-,h1⟩)
             ·have:=uj.out;omega
             ·exact of_decide_eq_false hF.symm h1)
            clear hF
            go_wp2_with fail
            refine⟨⟨j+1,nx,ny,true,hjm,by go_num,rfl,jd.out,jr.out,oP.out,by rw[sN.out,HST.out];rfl⟩,?_⟩
            show m-((j:Int)+1).toNat<m-(j:Int).toNat
            omega
           ·have HST:Hid (Hull.step (z2 (ax,ay)) (if true=true then some (z2 (nx,ny)) else none) (z2 (qx,qy))=some (z2 (qx,qy))):=q2n iw.out (Or.inr ⟨uj.out,of_decide_eq_true hF.symm⟩)
            clear hF
            have aK:=Rec.f2 (Rec.G jr.out (G.refl _))
            have dG:=aK.1
            have dH:=aK.2.1
            have dI:=aK.2.2.1
            have dJ:=aK.2.2.2
            clear aK
            go_wp2_with fail
            refine⟨⟨j+1,qx,qy,true,hjm,by go_num,rfl,Rec.g2 jd.out (by have:=mX.out;omega),Rec.set2 jr.out,pG.out,by rw[sN.out,HST.out];rfl⟩,?_⟩
            show m-((j:Int)+1).toNat<m-(j:Int).toNat
            omega
          ·have htb:decide (t<0)=false:=decide_eq_false (by omega)
           have hte:(t==0)=false:=by simp;omega
           have HST:Hid (Hull.step (z2 (ax,ay)) (if true=true then some (z2 (nx,ny)) else none) (z2 (qx,qy))=some (z2 (nx,ny))):=q1S iw.out (by
            have:=HT.out
            rw[this] at h
            have:=Int.sign_pos_iff.1 h
            omega)
           clear h
           go_wp2_with fail
           refine⟨⟨j+1,nx,ny,true,hjm,by go_num,rfl,jd.out,jr.out,oP.out,by rw[sN.out,HST.out];rfl⟩,?_⟩
           show m-((j:Int)+1).toNat<m-(j:Int).toNat
           omega
        ·have Bp:Hid (z2 (qx,qy)=z2 (ax,ay)):=(q1G pG.out.2.2 vP.out.2.2).1 (by rw[gG.out];rfl)
         have HST:Hid (Hull.step (z2 (ax,ay)) (if b=true then some (z2 (nx,ny)) else none) (z2 (qx,qy))=(if b=true then some (z2 (nx,ny)) else none)):=q7B _ Bp.out
         go_wp2_with fail
         refine⟨⟨j+1,nx,ny,b,hjm,by go_num,rfl,G.trans hG2 pI,Rec.G uk.out pI,oP.out,by rw[sN.out,HST.out]⟩,?_⟩
         show m-((j:Int)+1).toNat<m-(j:Int).toNat
         omega
      ·have e:m=j:=by omega
       subst e
       obtain⟨b',hb1,hb2⟩:=HC.out.next i _ Ob.out
       have hfin:=vS.out
       rw[List.take_of_length_le (by rw[← xw.out];exact Nat.le_refl _),hb1] at hfin
       cases b with
       |false=>cases hfin
       |true=>
        have hbz:b'=z2 (nx,ny):=Option.some.inj hfin
        rw[hbz] at hb2
        have HB2:Hid ((z2 (nx,ny)=z2 (x0,y0)∧i+1=C.length)∨(z2 (nx,ny)≠z2 (x0,y0)∧C[i+1]? =some (z2 (nx,ny)))):=hb2
        have Lj:Hid ((o++[(ax,ay)]).map z2=C.take (i+1)):=by
         show _=_
         rw[List.take_add_one,Ob.out,List.map_append,Ti.out]
         rfl
        have Ab:Hid (∀ q∈o++[(ax,ay)],FinP q):=fun q hq=>by
         rcases List.mem_append.1 hq with h|h
         ·exact Tj.out q h
         ·rw[List.mem_singleton.1 h];exact vP.out.2.2
        clear hb1 hb2 hfin hbz vS
        go_wp2_with fail
        obtain⟨⟨hx2,hy2⟩,-,-,Lf,-⟩:=((EK.out.G HG2.out).G hG2).at (i:=0) (by rw[← xw.out];exact hmp)
        rw[← Tf.out,Nat.zero_mul] at hx2 hy2
        dsimp only at hx2 hy2
        have gG:Hid (q1h (nx,ny) (x0,y0)=((FloatKind.f64.format.order nx x0==some .eq)&&(FloatKind.f64.format.order ny y0==some .eq))):=rfl
        have he1:=fun w=>q0O nx x0 w
        have he2:=fun w=>q0O ny y0 w
        generalize (FloatKind.f64.format.order nx x0==some .eq)=t1 at gG he1
        generalize (FloatKind.f64.format.order ny y0==some .eq)=t2 at gG he2
        obtain⟨hn0,hn1,-⟩:=uk.out.f2
        obtain⟨hs0,-⟩:=EO.out.f1
        have Uc:=uk.out.lt
        have Ud:=EO.out.lt
        cases t1
        ·clear he2
         refine q07 (by kernel_rfl) (by kernel_rfl) ?_
         intro W hW
         have hq1:=q04 (w:=W) (a:=⟨bN,0,none⟩) (x:= .float .f64 nx) (by rw[hW];first|(simp;done)|(simp;omega)|omega) (by rw[hW];first|assumption|(simp [go_sem];done)|(simp [*,go_sem];done))
         have hq2:=q04 (w:=W) (a:=⟨bN,1,none⟩) (x:= .float .f64 ny) (by rw[hW];first|(simp;done)|(simp;omega)|omega) (by rw[hW];first|assumption|(simp [go_sem];done)|(simp [*,go_sem];done))
         have hq3:=q04 (w:=W) (a:=⟨bS,0,none⟩) (x:= .slice (some ⟨g,0,none⟩) m gc) (by rw[hW];first|(simp;done)|(simp;omega)|omega) (by rw[hW];first|assumption|(simp [go_sem];done)|(simp [*,go_sem];done))
         have hq4:=q04 (w:=W) (a:=⟨g,0,none⟩) (x:= .float .f64 x0) (by rw[hW];first|(simp;done)|(simp;omega)|omega) (by rw[hW];first|assumption|(simp [go_sem];done)|(simp [*,go_sem];done))
         have kC:=q04 (w:=W) (a:=⟨g,1,none⟩) (x:= .float .f64 y0) (by rw[hW];first|(simp;done)|(simp;omega)|omega) (by rw[hW];first|assumption|(simp [go_sem];done)|(simp [*,go_sem];done))
         clear hW
         repeat (go_big_quiet_step (fail))
         refine wpQuiet_nil ?_
         clear hq1 hq2 hq3 hq4 kC
         intro w6 jv
         have iw:z2 (nx,ny)≠z2 (x0,y0):=q43 oP.out.2.2 uj.out.2.2 (by rw[gG.out];rfl)
         have mW:Hid (C[i+1]? =some (z2 (nx,ny))):=by
          rcases HB2.out with ⟨h,-⟩|⟨-,h⟩
          ·exact absurd h iw
          ·exact h
         have nD:=G.trans hG2 jv
         have oQ:Hid (POwn w6 (bA+1) (.slice a7 (i+1) c7) (o++[(ax,ay)])):=fF.out.G nD
         have EZ:Hid (Rec w6 bA [.float .f64 ax,.float .f64 ay]):=Rec.G Gq.out nD
         have Ll:Hid (Rec w6 bN [.float .f64 nx,.float .f64 ny]):=Rec.G uk.out jv
         have vv:Hid (G w1 w6):=G.trans HG2.out nD
         clear iw hn0 hn1 hs0 hx2 hy2 he1
         have gz:=Rec.f2 (Rec.G EZ.out (G.refl _))
         have vT:=gz.1
         have vU:=gz.2.1
         have vV:=gz.2.2.1
         have vW:=gz.2.2.2
         clear gz
         have gD:=Rec.f2 (Rec.G Ll.out (G.refl _))
         have vX:=gD.1
         have vY:=gD.2.1
         have vZ:=gD.2.2.1
         have wh:=gD.2.2.2
         clear gD
         go_wp2_with fail
         have qI:POwn (World.setCell (World.setCell w6 ⟨bA,0,none⟩ (.float .f64 nx)) ⟨bA,1,none⟩ (.float .f64 ny)) (bA+1) (.slice a7 (i+1) c7) (o++[(ax,ay)]):=by
          have h2:=oQ.out.oth (w':=World.setCell w6 ⟨bA,0,none⟩ (.float .f64 nx)) (b:=bA) (oQ.out.own (Or.inl (Nat.lt_succ_self _))) (fun k hk=>q0E hk)
          exact h2.oth (w':=World.setCell (World.setCell w6 ⟨bA,0,none⟩ (.float .f64 nx)) ⟨bA,1,none⟩ (.float .f64 ny)) (b:=bA) (h2.own (Or.inl (Nat.lt_succ_self _))) (fun k hk=>q0E hk)
         refine⟨⟨i+1,o++[(ax,ay)],nx,ny,Rec.g2 vv.out (by have:=wX.out;omega),Rec.set2 EZ.out,qI,Lj.out,mW.out,oP.out,Ab.out,by have:=(List.getElem?_eq_some_iff.1 mW.out).1;have:=FW.out;omega⟩,?_⟩
         show C.length-(i+1)<C.length-i
         have:=Oc.out
         omega
        ·cases t2
         ·skip
          refine q07 (by kernel_rfl) (by kernel_rfl) ?_
          intro W hW
          have kG:=q04 (w:=W) (a:=⟨bN,0,none⟩) (x:= .float .f64 nx) (by rw[hW];first|(simp;done)|(simp;omega)|omega) (by rw[hW];first|assumption|(simp [go_sem];done)|(simp [*,go_sem];done))
          have kS:=q04 (w:=W) (a:=⟨bN,1,none⟩) (x:= .float .f64 ny) (by rw[hW];first|(simp;done)|(simp;omega)|omega) (by rw[hW];first|assumption|(simp [go_sem];done)|(simp [*,go_sem];done))
          have hq8:=q04 (w:=W) (a:=⟨bS,0,none⟩) (x:= .slice (some ⟨g,0,none⟩) m gc) (by rw[hW];first|(simp;done)|(simp;omega)|omega) (by rw[hW];first|assumption|(simp [go_sem];done)|(simp [*,go_sem];done))
          have qp:=q04 (w:=W) (a:=⟨g,0,none⟩) (x:= .float .f64 x0) (by rw[hW];first|(simp;done)|(simp;omega)|omega) (by rw[hW];first|assumption|(simp [go_sem];done)|(simp [*,go_sem];done))
          have jf:=q04 (w:=W) (a:=⟨g,1,none⟩) (x:= .float .f64 y0) (by rw[hW];first|(simp;done)|(simp;omega)|omega) (by rw[hW];first|assumption|(simp [go_sem];done)|(simp [*,go_sem];done))
          clear hW
          repeat (go_big_quiet_step (fail))
          refine wpQuiet_nil ?_
          clear kG kS hq8 qp jf
          intro w6 jv
          have iw:z2 (nx,ny)≠z2 (x0,y0):=q43 oP.out.2.2 uj.out.2.2 (by rw[gG.out];rfl)
          have mW:Hid (C[i+1]? =some (z2 (nx,ny))):=by
           rcases HB2.out with ⟨h,-⟩|⟨-,h⟩
           ·exact absurd h iw
           ·exact h
          have nD:=G.trans hG2 jv
          have oQ:Hid (POwn w6 (bA+1) (.slice a7 (i+1) c7) (o++[(ax,ay)])):=fF.out.G nD
          have EZ:Hid (Rec w6 bA [.float .f64 ax,.float .f64 ay]):=Rec.G Gq.out nD
          have Ll:Hid (Rec w6 bN [.float .f64 nx,.float .f64 ny]):=Rec.G uk.out jv
          have vv:Hid (G w1 w6):=G.trans HG2.out nD
          clear iw hn0 hn1 hs0 hx2 hy2 he1
          have gz:=Rec.f2 (Rec.G EZ.out (G.refl _))
          have vT:=gz.1
          have vU:=gz.2.1
          have vV:=gz.2.2.1
          have vW:=gz.2.2.2
          clear gz
          have gD:=Rec.f2 (Rec.G Ll.out (G.refl _))
          have vX:=gD.1
          have vY:=gD.2.1
          have vZ:=gD.2.2.1
          have wh:=gD.2.2.2
          clear gD
          go_wp2_with fail
          have qI:POwn (World.setCell (World.setCell w6 ⟨bA,0,none⟩ (.float .f64 nx)) ⟨bA,1,none⟩ (.float .f64 ny)) (bA+1) (.slice a7 (i+1) c7) (o++[(ax,ay)]):=by
           have h2:=oQ.out.oth (w':=World.setCell w6 ⟨bA,0,none⟩ (.float .f64 nx)) (b:=bA) (oQ.out.own (Or.inl (Nat.lt_succ_self _))) (fun k hk=>q0E hk)
           exact h2.oth (w':=World.setCell (World.setCell w6 ⟨bA,0,none⟩ (.float .f64 nx)) ⟨bA,1,none⟩ (.float .f64 ny)) (b:=bA) (h2.own (Or.inl (Nat.lt_succ_self _))) (fun k hk=>q0E hk)
          refine⟨⟨i+1,o++[(ax,ay)],nx,ny,Rec.g2 vv.out (by have:=wX.out;omega),Rec.set2 EZ.out,qI,Lj.out,mW.out,oP.out,Ab.out,by have:=(List.getElem?_eq_some_iff.1 mW.out).1;have:=FW.out;omega⟩,?_⟩
          show C.length-(i+1)<C.length-i
          have:=Oc.out
          omega
         ·skip
          refine q07 (by kernel_rfl) (by kernel_rfl) ?_
          intro W hW
          have hq11:=q04 (w:=W) (a:=⟨bN,0,none⟩) (x:= .float .f64 nx) (by rw[hW];first|(simp;done)|(simp;omega)|omega) (by rw[hW];first|assumption|(simp [go_sem];done)|(simp [*,go_sem];done))
          have hq12:=q04 (w:=W) (a:=⟨bN,1,none⟩) (x:= .float .f64 ny) (by rw[hW];first|(simp;done)|(simp;omega)|omega) (by rw[hW];first|assumption|(simp [go_sem];done)|(simp [*,go_sem];done))
          have nV:=q04 (w:=W) (a:=⟨bS,0,none⟩) (x:= .slice (some ⟨g,0,none⟩) m gc) (by rw[hW];first|(simp;done)|(simp;omega)|omega) (by rw[hW];first|assumption|(simp [go_sem];done)|(simp [*,go_sem];done))
          have nW:=q04 (w:=W) (a:=⟨g,0,none⟩) (x:= .float .f64 x0) (by rw[hW];first|(simp;done)|(simp;omega)|omega) (by rw[hW];first|assumption|(simp [go_sem];done)|(simp [*,go_sem];done))
          have nX:=q04 (w:=W) (a:=⟨g,1,none⟩) (x:= .float .f64 y0) (by rw[hW];first|(simp;done)|(simp;omega)|omega) (by rw[hW];first|assumption|(simp [go_sem];done)|(simp [*,go_sem];done))
          clear hW
          repeat (go_big_quiet_step (fail))
          refine wpQuiet_nil ?_
          clear hq11 hq12 nV nW nX
          intro w6 jv
          have Bp:z2 (nx,ny)=z2 (x0,y0):=(q1G oP.out.2.2 uj.out.2.2).1 (by rw[gG.out];rfl)
          have hend:i+1=C.length:=by
           rcases HB2.out with ⟨-,h⟩|⟨h,-⟩
           ·exact h
           ·exact absurd Bp h
          have uV:Hid (i+1=C.length):=hend
          have hgf:G w w6:=G.trans hg1 (G.trans HG2.out (G.trans hG2 jv))
          have oQ:Hid (POwn w6 (bA+1) (.slice a7 (i+1) c7) (o++[(ax,ay)])):=(fF.out.G hG2).G jv
          clear Bp hend he1 he2
          go_wp2_with fail
          go_ret
          refine⟨_,s',_,rfl,hgf,oQ.out.base (by have:=wX.out;have:=hg1.size;omega),EL.out.1,EL.out.2,?_,Ab.out⟩
          rw[if_neg (by rw[← xw.out];exact iE.out),HC.out.hull,Lj.out,uV.out,List.take_length]
end Go.Proofs.YtdidnnbpdcanlaaGreatDoor.EN
